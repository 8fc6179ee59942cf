"""Point 23: a live desk, its operations, its marks and its history."""

import unittest
from random import Random

from desk_helpers import CATALOG, FEATURES, NOT_RED, OTHER, PLAIN, RED, SMALL, drawn_operation, state
from helpers import frozen, graph_office, greatest_matches, plain_fits
from lostdesk.desks import Desk
from lostdesk.errors import (Conflict, DeskError, InvalidName, InvalidOffice, NotFitting, UnknownFeature, UnknownLabel,
                             UnknownMark)
from lostdesk.notes import Note
from lostdesk.offices import Claim, Office, Thing

def pairs_of(office):
    """Return the greatest number of pairs of a match."""
    return len(greatest_matches(office)[0])


def desk_of(office):
    """Return a desk with the things and claims of an office."""
    desk = Desk(office.catalog)
    for label, thing in office.things.items():
        desk.find(label, thing)
    for label, claim in office.claims.items():
        desk.lose(label, claim)
    return desk


class PlainDesk:
    """A desk that is led by hand: an office, marks, and all states before this one."""

    def __init__(self):
        self.things, self.claims, self.marks, self.history = {}, {}, {}, []
        self.before, self.undone = [], []

    def office(self):
        return Office(CATALOG, self.things, self.claims)

    def error(self, name, *told):
        """Return the class of the error that an operation raises, or None."""
        if name in ("find", "lose"):
            label, entry = told
            own, other = (self.things, self.claims) if name == "find" else (self.claims, self.things)
            wrong = not label.isalpha() or label in other or entry.note.catalog != CATALOG
            return InvalidOffice if wrong or len(set(own) | {label}) > 8 else None
        if name == "hand":
            claim, thing = told
            if claim not in self.claims or thing not in self.things:
                return UnknownLabel
            return None if plain_fits(self.office(), claim, thing) else NotFitting
        if name in ("narrow", "drop"):
            entry = {**self.things, **self.claims}.get(told[0])
            if entry is None or name == "drop":
                return UnknownLabel if entry is None else None
            if told[1] not in ("hue", "size"):
                return UnknownFeature
            return None if told[2] in entry.note[told[1]] else Conflict
        if name == "mark":
            return None if told[0].isalpha() else InvalidName
        return None if told[0] in self.marks else UnknownMark

    def narrowed(self, label, feature, value):
        """Return the thing or the claim with a label with only one value for a feature."""
        entry = {**self.things, **self.claims}[label]
        told = {name: entry.note[name] for name, _ in FEATURES} | {feature: (value,)}
        note = Note(CATALOG, told)
        if label in self.things:
            return Thing(note, entry.day)
        return Claim(note, entry.day, entry.slips, entry.worth)

    def change(self, name, *told):
        """Execute an operation that raises no error, and return its result."""
        office = self.office()
        if name == "find":
            self.things[told[0]] = told[1]
        if name == "lose":
            self.claims[told[0]] = told[1]
        if name == "narrow":
            entries = self.things if told[0] in self.things else self.claims
            entries[told[0]] = self.narrowed(*told)
        if name in ("hand", "drop"):
            for label in told:
                self.things.pop(label, None)
                self.claims.pop(label, None)
        if name == "mark":
            known = told[0] in self.marks
            self.marks[told[0]] = office
            return known
        if name == "go":
            marked = self.marks[told[0]]
            self.things, self.claims = dict(marked.things), dict(marked.claims)
            return len(self.claims)
        if name == "drop":
            return any(told[0] in pair for pairs in greatest_matches(office) for pair in pairs)
        if name == "hand":
            return pairs_of(office) - pairs_of(self.office())
        return pairs_of(self.office())

    def kept(self):
        return dict(self.things), dict(self.claims), dict(self.marks), list(self.history)

    def run(self, operation):
        self.before.append(self.kept())
        self.undone = []
        result = self.change(*operation)
        self.history.append(operation)
        return result

    def undo(self):
        if not self.before:
            return False
        self.undone.append(self.kept())
        self.things, self.claims, self.marks, self.history = self.before.pop()
        return True

    def redo(self):
        if not self.undone:
            return False
        self.before.append(self.kept())
        self.things, self.claims, self.marks, self.history = self.undone.pop()
        return True


class LedByHandTest(unittest.TestCase):
    def check_like(self, desk, plain):
        office = plain.office()
        self.assertEqual(desk.office(), office)
        self.assertEqual(list(desk.office().things) + list(desk.office().claims),
                         list(office.things) + list(office.claims))
        self.assertEqual(desk.marks, sorted(plain.marks))
        self.assertEqual(desk.history, plain.history)
        served = {claim for pairs in greatest_matches(office) for claim, _ in pairs}
        self.assertEqual(desk.open_claims(), [claim for claim in sorted(office.claims) if claim not in served])

    def step(self, desk, plain, operation):
        """Execute an operation on both, and return how it ended."""
        name, *told = operation
        if name in ("undo", "redo"):
            result = getattr(plain, name)()
            self.assertIs(getattr(desk, name)(), result)
            return name, result
        error = plain.error(*operation)
        if error is None:
            result = plain.run(operation)
            got = getattr(desk, name)(*told)
            self.assertEqual((got, type(got)), (result, type(result)))
            return name, result
        before = state(desk)
        with self.assertRaises(error) as caught:
            getattr(desk, name)(*told)
        self.assertIs(type(caught.exception), error)
        self.assertEqual(state(desk), before)
        return name, error

    def test_drawn_operations(self):
        seen = set()
        for seed in range(60):
            random = Random(seed)
            desk, plain = Desk(CATALOG), PlainDesk()
            for _ in range(60):
                seen.add(self.step(desk, plain, drawn_operation(random)))
                self.check_like(desk, plain)
        for wanted in (("find", InvalidOffice), ("lose", InvalidOffice), ("hand", UnknownLabel), ("hand", NotFitting),
                       ("hand", 1), ("narrow", UnknownLabel), ("narrow", UnknownFeature), ("narrow", Conflict),
                       ("drop", True), ("drop", False), ("drop", UnknownLabel), ("mark", True), ("mark", False),
                       ("mark", InvalidName), ("go", UnknownMark), ("go", 2), ("undo", True), ("undo", False),
                       ("redo", True), ("redo", False)):
            self.assertIn(wanted, seen)


class OperationsTest(unittest.TestCase):
    def setUp(self):
        self.desk = Desk(CATALOG)

    def check_error(self, error, call, *told, **attributes):
        before = state(self.desk)
        for _ in range(2):
            with self.assertRaises(error) as caught:
                call(*told)
            self.assertIs(type(caught.exception), error)
            self.assertEqual(vars(caught.exception), attributes)
            self.assertEqual(state(self.desk), before)

    def test_a_new_desk(self):
        self.assertEqual(self.desk.office(), Office(CATALOG, {}, {}))
        self.assertEqual([self.desk.marks, self.desk.history, self.desk.open_claims()], [[], [], []])
        self.assertEqual([self.desk.undo(), self.desk.redo()], [False, False])

    def test_find_and_lose(self):
        desk = self.desk
        told = [desk.find("key", Thing(RED, 3)), desk.lose("bo", Claim(RED, 2)), desk.find("cap", Thing(RED, 3)),
                desk.lose("ann", Claim(PLAIN, 4)), desk.lose("cy", Claim(NOT_RED, 1))]
        self.assertEqual(told, [0, 1, 1, 1, 1])
        self.assertEqual((list(desk.office().things), list(desk.office().claims)),
                         (["cap", "key"], ["ann", "bo", "cy"]))

    def test_one_in_the_place_of_another(self):
        desk = self.desk
        self.assertEqual([desk.find("key", Thing(RED, 3)), desk.lose("bo", Claim(RED, 2))], [0, 1])
        self.assertEqual(desk.find("key", Thing(NOT_RED, 3)), 0)
        self.assertEqual(desk.office().things["key"], Thing(NOT_RED, 3))
        self.assertEqual(desk.lose("bo", Claim(NOT_RED, 2, 1, 5)), 1)
        self.assertEqual(desk.office().claims, {"bo": Claim(NOT_RED, 2, 1, 5)})

    def test_errors_of_find_and_lose(self):
        desk = self.desk
        desk.find("cap", Thing(PLAIN, 3))
        desk.lose("bo", Claim(PLAIN, 2))
        self.check_error(InvalidOffice, desk.find, "bo", Thing(PLAIN, 3), part="claims", label="bo")
        self.check_error(InvalidOffice, desk.lose, "cap", Claim(PLAIN, 3), part="claims", label="cap")
        for label in ("", "Bo", "b o", "b9", "ninechars"):
            self.check_error(InvalidOffice, desk.find, label, Thing(PLAIN, 3), part="things", label=label)
            self.check_error(InvalidOffice, desk.lose, label, Claim(PLAIN, 3), part="claims", label=label)
        self.check_error(InvalidOffice, desk.find, "key", Thing(OTHER, 3), part="things", label="key")
        self.check_error(InvalidOffice, desk.lose, "ann", Claim(OTHER, 3), part="claims", label="ann")
        self.check_error(InvalidOffice, desk.find, "bo", Thing(OTHER, 3), part="things", label="bo")

    def test_a_ninth_thing_and_a_ninth_claim(self):
        desk = self.desk
        for letter in "abcdefgh":
            desk.find("t" + letter, Thing(PLAIN, 3))
            desk.lose("c" + letter, Claim(PLAIN, 3))
        self.check_error(InvalidOffice, desk.find, "ti", Thing(PLAIN, 3), part="things", label="ti")
        self.check_error(InvalidOffice, desk.find, "a", Thing(PLAIN, 3), part="things", label="th")
        self.check_error(InvalidOffice, desk.lose, "ci", Claim(PLAIN, 3), part="claims", label="ci")
        self.check_error(InvalidOffice, desk.lose, "a", Claim(PLAIN, 3), part="claims", label="ch")
        self.assertEqual([desk.find("th", Thing(RED, 4)), desk.lose("ch", Claim(RED, 4)), desk.hand("ch", "th"),
                          desk.find("ti", Thing(RED, 4)), desk.lose("ci", Claim(RED, 5))], [8, 8, 1, 7, 7])

    def test_hand_costs_one_pair_or_two(self):
        office = graph_office(["ab", "a", "cd"])
        self.desk = desk_of(office)
        self.assertEqual(self.desk.hand("cc", "td"), 1)
        self.assertEqual(self.desk.hand("ca", "ta"), 2)
        self.assertEqual((list(self.desk.office().claims), "ta" in self.desk.office()), (["cb"], False))
        desk = desk_of(office)
        self.assertEqual([desk.hand("cb", "ta"), desk.hand("ca", "tb")], [1, 1])

    def test_errors_of_hand(self):
        self.desk = desk = desk_of(graph_office(["a", "b"]))
        self.check_error(NotFitting, desk.hand, "ca", "tb")
        for claim in ("zz", "ta", ""):
            for thing in ("zz", "ca", "ta"):
                self.check_error(UnknownLabel, desk.hand, claim, thing)
        for thing in ("zz", "ca", "cb", ""):
            self.check_error(UnknownLabel, desk.hand, "ca", thing)
        desk.hand("ca", "ta")
        self.check_error(UnknownLabel, desk.hand, "ca", "ta")

    def test_narrow(self):
        desk = self.desk
        desk.find("cap", Thing(NOT_RED, 3))
        desk.lose("bo", Claim(PLAIN, 2, 0, 7))
        self.assertEqual([desk.narrow("bo", "hue", "blue"), desk.narrow("cap", "hue", "green")], [1, 0])
        self.assertEqual(desk.office().claims["bo"], Claim(Note(CATALOG, {"hue": ("blue",)}), 2, 0, 7))
        self.assertEqual(desk.office().things["cap"], Thing(Note(CATALOG, {"hue": ("green",)}), 3))
        self.assertEqual(desk.narrow("cap", "hue", "green"), 0)

    def test_errors_of_narrow(self):
        desk = self.desk
        desk.find("cap", Thing(NOT_RED, 3))
        desk.lose("bo", Claim(RED, 2))
        self.check_error(UnknownLabel, desk.narrow, "zz", "hue", "blue")
        self.check_error(UnknownLabel, desk.narrow, "zz", "shape", "odd")
        self.check_error(UnknownFeature, desk.narrow, "bo", "shape", "odd")
        self.check_error(UnknownFeature, desk.narrow, "cap", "", "red")
        self.check_error(Conflict, desk.narrow, "cap", "hue", "red", feature="hue")
        self.check_error(Conflict, desk.narrow, "bo", "hue", "blue", feature="hue")
        self.check_error(Conflict, desk.narrow, "bo", "size", "red", feature="size")

    def test_drop(self):
        rows = ["a", "a", "", "bc"]
        for label, wanted in (("ca", True), ("cb", True), ("cc", False), ("ta", True), ("tb", True), ("tc", True),
                              ("td", False), ("cd", True)):
            desk = desk_of(graph_office(rows))
            self.assertIs(desk.drop(label), wanted)
            self.assertFalse(label in desk.office())
        self.desk = desk_of(graph_office(["ab", "a"]).without("tc"))
        self.assertIs(self.desk.drop("tb"), True)
        self.check_error(UnknownLabel, self.desk.drop, "tb")
        self.check_error(UnknownLabel, self.desk.drop, "")

    def test_open_claims(self):
        self.assertEqual(desk_of(graph_office(["", "a", "a", ""])).open_claims(), ["ca", "cd"])
        self.assertEqual(desk_of(graph_office(["a", "b"])).open_claims(), [])
        self.assertEqual(desk_of(graph_office(["ab", "ab", "a"])).open_claims(), [])
        desk = Desk(CATALOG)
        desk.lose("bo", Claim(PLAIN, 2))
        desk.lose("ann", Claim(PLAIN, 2))
        self.assertEqual(desk.open_claims(), ["ann", "bo"])

    def test_history(self):
        thing, claim = Thing(PLAIN, 3), Claim(PLAIN, 2)
        desk = self.desk
        desk.find("cap", thing)
        desk.lose("bo", claim)
        desk.narrow("cap", "hue", "red")
        desk.mark("x")
        desk.hand("bo", "cap")
        desk.go("x")
        desk.drop("cap")
        self.assertEqual(desk.history, [("find", "cap", thing), ("lose", "bo", claim), ("narrow", "cap", "hue", "red"),
                                        ("mark", "x"), ("hand", "bo", "cap"), ("go", "x"), ("drop", "cap")])
        self.assertIsInstance(desk.history, list)

    def test_lists_are_new(self):
        desk = self.desk
        desk.find("cap", Thing(PLAIN, 3))
        desk.lose("bo", Claim(RED, 9))
        desk.mark("x")
        before = state(desk)
        for told in (desk.marks, desk.history, desk.open_claims(), desk.office().things, desk.office().claims):
            told.clear()
            self.assertEqual(state(desk), before)
        desk.history.append(("drop", "cap"))
        desk.marks.append("y")
        self.assertEqual(state(desk), before)
        operations = [("drop", "cap"), ("mark", "y")]
        results = desk.apply_all(operations)
        before = state(desk)
        operations.clear()
        results.clear()
        self.assertEqual(state(desk), before)

    def test_desks_do_not_share_anything(self):
        other = Desk(CATALOG)
        self.desk.find("cap", Thing(PLAIN, 3))
        self.desk.mark("x")
        self.assertEqual([other.office(), other.marks, other.history], [Office(CATALOG, {}, {}), [], []])

    def test_an_office_stays_as_it_was(self):
        desk = self.desk
        desk.find("cap", Thing(PLAIN, 3))
        office = desk.office()
        before = frozen(office)
        desk.narrow("cap", "hue", "red")
        desk.lose("bo", Claim(RED, 2))
        desk.hand("bo", "cap")
        self.assertEqual(frozen(office), before)


class MarksTest(unittest.TestCase):
    def setUp(self):
        self.desk = Desk(CATALOG)
        self.desk.lose("ann", Claim(RED, 2))

    def claims(self):
        return list(self.desk.office().claims)

    def test_mark_and_go(self):
        desk = self.desk
        self.assertIs(desk.mark("x"), False)
        desk.lose("bo", Claim(RED, 2))
        self.assertIs(desk.mark("abcdefgh"), False)
        desk.find("cap", Thing(RED, 2))
        self.assertEqual(desk.marks, ["abcdefgh", "x"])
        self.assertEqual((desk.go("x"), self.claims(), list(desk.office().things)), (1, ["ann"], []))
        self.assertEqual((desk.go("abcdefgh"), self.claims(), desk.marks), (2, ["ann", "bo"], ["abcdefgh", "x"]))
        self.assertEqual(len(desk.history), 7)

    def test_go_to_an_empty_office(self):
        desk = Desk(CATALOG)
        desk.mark("x")
        desk.lose("bo", Claim(RED, 2))
        self.assertEqual((desk.go("x"), desk.office()), (0, Office(CATALOG, {}, {})))

    def test_a_mark_that_is_overwritten(self):
        desk = self.desk
        desk.mark("x")
        desk.lose("bo", Claim(RED, 2))
        self.assertIs(desk.mark("x"), True)
        desk.drop("ann")
        self.assertEqual((desk.go("x"), self.claims(), desk.marks), (2, ["ann", "bo"], ["x"]))
        desk.undo()
        desk.undo()
        self.assertIs(desk.undo(), True)
        self.assertEqual((desk.go("x"), self.claims(), desk.marks), (1, ["ann"], ["x"]))

    def test_a_mark_that_is_undone_and_redone(self):
        desk = self.desk
        desk.mark("x")
        desk.lose("bo", Claim(RED, 2))
        self.assertEqual([desk.undo(), desk.undo(), desk.marks], [True, True, []])
        before = state(desk)
        self.assertRaises(UnknownMark, desk.go, "x")
        self.assertEqual(state(desk), before)
        self.assertEqual([desk.redo(), desk.marks, desk.redo(), desk.go("x")], [True, ["x"], True, 1])
        self.assertEqual([desk.undo(), self.claims(), desk.marks], [True, ["ann", "bo"], ["x"]])

    def test_an_overwritten_mark_that_is_redone(self):
        desk = self.desk
        desk.mark("x")
        desk.lose("bo", Claim(RED, 2))
        desk.mark("x")
        desk.undo()
        desk.redo()
        desk.drop("bo")
        desk.drop("ann")
        self.assertEqual((desk.go("x"), self.claims()), (2, ["ann", "bo"]))

    def test_going_back_keeps_later_marks(self):
        desk = self.desk
        desk.mark("x")
        desk.lose("bo", Claim(RED, 2))
        desk.mark("y")
        desk.go("x")
        self.assertEqual((desk.marks, desk.go("y")), (["x", "y"], 2))

    def test_go_to_a_mark_that_is_none(self):
        before = state(self.desk)
        for name in ("x", "", "ann", "X y"):
            self.assertRaises(UnknownMark, self.desk.go, name)
        self.assertEqual(state(self.desk), before)

    def test_names_that_are_no_words(self):
        before = state(self.desk)
        for name in ("", "X", "xY", "x y", "x1", "ninechars", "x-", " x", "x\n", "\u00e4", "\u0430"):
            with self.assertRaises(InvalidName) as caught:
                self.desk.mark(name)
            self.assertIs(type(caught.exception), InvalidName)
            self.assertIsInstance(caught.exception, DeskError)
            self.assertEqual(state(self.desk), before)

    def test_a_mark_may_be_called_like_a_label(self):
        self.assertEqual([self.desk.mark("ann"), self.desk.go("ann"), self.desk.marks], [False, 1, ["ann"]])


class FailedOperationTest(unittest.TestCase):
    """What a failed operation leaves: also what can be undone and redone."""

    def test_each_error(self):
        failing = [("find", "B", Thing(PLAIN, 3)), ("lose", "cap", Claim(PLAIN, 3)), ("hand", "zz", "cap"),
                   ("hand", "bo", "key"), ("narrow", "zz", "hue", "red"), ("narrow", "bo", "shape", "red"),
                   ("narrow", "key", "hue", "red"), ("drop", "zz"), ("mark", ""), ("go", "y")]
        for name, *told in failing:
            desk = Desk(CATALOG)
            desk.find("cap", Thing(RED, 3))
            desk.find("key", Thing(NOT_RED, 3))
            desk.lose("bo", Claim(RED, 2))
            desk.mark("x")
            desk.lose("ann", Claim(SMALL, 2))
            desk.drop("cap")
            desk.undo()
            desk.undo()
            before = state(desk)
            with self.subTest(name=name, told=told), self.assertRaises(DeskError):
                getattr(desk, name)(*told)
            self.assertEqual(state(desk), before)
            self.assertEqual([desk.redo(), "ann" in desk.office(), desk.redo(), "cap" in desk.office(), desk.redo()],
                             [True, True, True, False, False])
            self.assertEqual([desk.undo() for _ in range(7)], [True] * 6 + [False])


if __name__ == "__main__":
    unittest.main()
