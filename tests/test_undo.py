"""Point 24: undo and redo, lists of operations, and blocks at whose end all is as before."""

import unittest
from random import Random

from desk_helpers import CATALOG, NOT_RED, PLAIN, RED, SMALL, drawn_operation, state
from helpers import frozen
from lostdesk.desks import Desk, Trial
from lostdesk.errors import (Conflict, DeskError, InvalidName, InvalidOffice, InvalidOperation, NotFitting,
                             UnknownFeature, UnknownLabel, UnknownMark)
from lostdesk.offices import Claim, Office, Thing

EMPTY = Office(CATALOG, {}, {})
LABELS = "abcdefgh"


def full_state(desk):
    """Return all that a desk tells of itself, also by undoing and redoing all there is; the desk is as before."""
    states = [state(desk)]
    undone = redone = 0
    while desk.redo():
        states.append(state(desk))
        redone += 1
    for _ in range(redone):
        desk.undo()
    while desk.undo():
        states.append(state(desk))
        undone += 1
    for _ in range(undone):
        desk.redo()
    return states


def started():
    """Return a desk with a thing, a claim and a mark, one operation that was undone, and the state of all that."""
    desk = Desk(CATALOG)
    desk.find("cap", Thing(RED, 3))
    desk.lose("ann", Claim(RED, 2))
    desk.mark("x")
    desk.lose("bo", Claim(PLAIN, 2))
    desk.undo()
    return desk, full_state(desk)


def drawn_operations(random, count):
    """Return so many operations that raise no error one after another."""
    desk, operations = Desk(CATALOG), []
    while len(operations) < count:
        operation = drawn_operation(random)
        try:
            getattr(desk, operation[0])(*operation[1:])
            operations.append(operation)
        except DeskError:
            pass
    return operations


def results_of(desk, operations):
    """Execute operations one by one, and return their results."""
    return [getattr(desk, name)(*told) for name, *told in operations]


class UndoTest(unittest.TestCase):
    def test_nothing_to_undo_or_redo(self):
        desk = Desk(CATALOG)
        self.assertEqual([desk.undo(), desk.redo(), desk.undo(), desk.history], [False, False, False, []])
        desk.find("cap", Thing(RED, 3))
        self.assertEqual([desk.redo(), len(desk.history)], [False, 1])
        self.assertEqual([desk.undo(), desk.undo(), desk.office() == EMPTY], [True, False, True])
        self.assertEqual([desk.redo(), desk.redo(), "cap" in desk.office()], [True, False, True])
        self.assertTrue(all(type(told) is bool for told in (desk.undo(), desk.undo(), desk.redo(), desk.redo())))

    def test_redo_behind_a_new_operation(self):
        desk = Desk(CATALOG)
        desk.find("cap", Thing(RED, 3))
        desk.find("key", Thing(RED, 3))
        desk.undo()
        desk.undo()
        desk.redo()
        desk.mark("x")
        self.assertEqual([desk.redo(), desk.history[1:], list(desk.office().things)], [False, [("mark", "x")], ["cap"]])
        self.assertEqual([desk.undo(), desk.redo(), desk.redo()], [True, True, False])

    def test_redo_behind_a_failed_operation(self):
        desk, _ = started()
        desk.find("key", Thing(NOT_RED, 3))
        desk.lose("bo", Claim(PLAIN, 2))
        desk.undo()
        before = full_state(desk)
        for error, name, *told in ((UnknownLabel, "drop", "zz"), (NotFitting, "hand", "ann", "key"),
                                   (InvalidName, "mark", "X"), (UnknownMark, "go", "y")):
            self.assertRaises(error, getattr(desk, name), *told)
            self.assertEqual(full_state(desk), before)
        self.assertEqual([desk.redo(), "bo" in desk.office(), desk.redo()], [True, True, False])

    def test_undo_of_mark_and_of_go(self):
        desk = Desk(CATALOG)
        desk.mark("x")
        desk.lose("ann", Claim(RED, 2))
        desk.mark("x")
        desk.go("x")
        desk.drop("ann")
        self.assertEqual([desk.undo(), desk.undo(), list(desk.office().claims)], [True, True, ["ann"]])
        self.assertEqual([desk.redo(), len(desk.history), desk.undo(), desk.undo(), desk.marks],
                         [True, 4, True, True, ["x"]])
        self.assertEqual([desk.go("x"), desk.office() == EMPTY, desk.redo()], [0, True, False])
        self.assertEqual([desk.undo(), list(desk.office().claims)], [True, ["ann"]])
        self.assertEqual([desk.undo(), desk.undo(), desk.marks, desk.undo()], [True, True, [], False])

    def test_several_hundred_operations(self):
        operations = []
        for round_ in range(60):
            thing, claim = "t" + LABELS[round_ % 8], "c" + LABELS[round_ % 7]
            note, name = (RED, PLAIN, SMALL)[round_ % 3], "xyz"[round_ % 3]
            operations += [("find", thing, Thing(note, round_ + 1)), ("lose", claim, Claim(RED, 1)),
                           ("narrow", thing, "size", "small"), ("mark", name), ("hand", claim, thing), ("go", name),
                           ("drop", thing)]
        desk = Desk(CATALOG)
        results = results_of(desk, operations)
        self.assertEqual(desk.history, operations)
        states = full_state(desk)
        self.assertEqual(len(states), len(operations) + 1)
        self.assertEqual(full_state(desk), states)
        replayed = Desk.replay(CATALOG, desk.history)
        self.assertEqual(full_state(replayed), states)
        self.assertEqual(Desk(CATALOG).apply_all(operations), results)
        undo_all = [("undo",)] * (len(operations) + 1)
        self.assertEqual(desk.apply_all(undo_all), [True] * len(operations) + [False])
        self.assertEqual((desk.office(), desk.marks, desk.history), (EMPTY, [], []))
        self.assertEqual(desk.apply_all([("redo",)] * (len(operations) + 1)), [True] * len(operations) + [False])
        self.assertEqual(full_state(desk), states)


class ApplyAllTest(unittest.TestCase):
    def check_error(self, operations, error, **attributes):
        """Check that all ways to execute operations raise an error, and that all is as before."""
        desk, before = started()
        told = frozen(operations)
        calls = [lambda: desk.apply_all(operations), lambda: desk.tried(operations, True),
                 lambda: desk.tried(operations, False)]
        for call in calls:
            with self.subTest(operations=operations), self.assertRaises(error) as caught:
                call()
            self.assertIs(type(caught.exception), error)
            self.assertEqual(vars(caught.exception), attributes)
            self.assertEqual(full_state(desk), before)
            self.assertEqual(frozen(operations), told)
        self.assertEqual([desk.redo(), "bo" in desk.office()], [True, True])

    def test_results(self):
        desk = Desk(CATALOG)
        self.assertEqual(desk.apply_all([]), [])
        operations = [("find", "cap", Thing(RED, 3)), ("lose", "ann", Claim(RED, 2)), ("undo",), ("mark", "x"),
                      ("redo",), ("undo",), ("redo",), ("mark", "x"), ("lose", "ann", Claim(RED, 2)),
                      ("narrow", "ann", "size", "big"), ("drop", "ann"), ("go", "x"), ("undo",), ("undo",),
                      ("hand", "ann", "cap"), ("redo",)]
        before = frozen(operations)
        wanted = [0, 1, True, False, False, True, True, True, 1, 1, True, 0, True, True, 1, False]
        self.assertEqual(frozen(desk.apply_all(operations)), frozen(wanted))
        self.assertEqual(frozen(operations), before)
        self.assertEqual([name for name, *_ in desk.history], ["find", "mark", "mark", "lose", "narrow", "hand"])

    def test_like_one_by_one(self):
        for seed in range(40):
            operations = drawn_operations(Random(seed), 40)
            one, other = Desk(CATALOG), Desk(CATALOG)
            self.assertEqual(one.apply_all(operations), results_of(other, operations))
            self.assertEqual(full_state(one), full_state(other))
            self.assertEqual(full_state(Desk.replay(CATALOG, operations)), full_state(other))
            self.assertEqual(full_state(Desk.replay(CATALOG, other.history))[0], state(other))

    def test_each_can_be_undone(self):
        desk, before = started()
        desk.apply_all([("redo",), ("drop", "cap"), ("mark", "y")])
        self.assertEqual([desk.undo(), desk.undo(), "cap" in desk.office(), "bo" in desk.office()], [True] * 4)
        self.assertEqual([desk.undo(), full_state(desk)[0]], [True, before[0]])
        self.assertEqual([desk.redo(), desk.redo(), desk.redo(), desk.redo()], [True, True, True, False])

    def test_undo_and_redo_reach_before_the_list(self):
        desk, before = started()
        self.assertEqual(desk.apply_all([("undo",), ("undo",)]), [True, True])
        self.assertEqual([list(desk.office().things), desk.marks, desk.redo(), desk.redo()], [["cap"], [], True, True])
        self.assertEqual(full_state(desk), before)
        self.assertEqual(desk.apply_all([("redo",), ("redo",)]), [True, False])
        self.assertEqual([desk.undo(), full_state(desk)], [True, before])

    def test_a_list_without_operations_leaves_redo(self):
        desk, before = started()
        self.assertEqual(desk.apply_all([]), [])
        self.assertEqual(full_state(desk), before)
        desk.apply_all([("mark", "y")])
        self.assertIs(desk.redo(), False)

    def test_malformed_operations(self):
        right = ("mark", "y")
        wrong = [(), ("shut",), ("", "y"), ("Mark", "y"), ("mark",), ("mark", "y", "z"), ("find", "cap"),
                 ("find", "cap", Thing(RED, 3), 1), ("find",), ("lose", "bo"), ("lose", "bo", Claim(RED, 2), PLAIN),
                 ("hand", "ann"), ("hand", "ann", "cap", "cap"), ("narrow", "cap", "hue"),
                 ("narrow", "cap", "hue", "red", 1), ("drop",), ("drop", "cap", "ann"), ("go",), ("go", "x", "x"),
                 ("undo", 1), ("undo", "x"), ("redo", "x"),
                 ("office",), ("open_claims",), ("marks",), ("history",), ("apply_all", [right]), ("apply_all", []),
                 ("tried", [right], True), ("replay", CATALOG, []), ("__init__", CATALOG), ("_execute", right),
                 ["mark", "y"], ["undo"], "undo", "mark", None, 7, True, {"mark": "y"}, {}, [], Thing(RED, 3),
                 (None,), (7,), (True,), (("mark", "y"),), (["mark"], "y"), ({}, "y"), (Thing(RED, 3), "y"), (b"undo",)]
        for operation in wrong:
            self.check_error([operation], InvalidOperation, index=0)
            self.check_error([right, ("undo",), operation], InvalidOperation, index=2)
            self.check_error([right, operation, operation, right], InvalidOperation, index=1)

    def test_operations_that_raise(self):
        first = [("redo",), ("drop", "ann"), ("mark", "z")]
        raising = [(InvalidOffice, {"part": "things", "label": "X"}, ("find", "X", Thing(RED, 3))),
                   (InvalidOffice, {"part": "claims", "label": "cap"}, ("lose", "cap", Claim(RED, 3))),
                   (UnknownLabel, {}, ("hand", "ann", "cap")), (UnknownLabel, {}, ("hand", "bo", "ann")),
                   (UnknownLabel, {}, ("narrow", "ann", "hue", "red")),
                   (UnknownFeature, {}, ("narrow", "bo", "shape", "red")),
                   (Conflict, {"feature": "hue"}, ("narrow", "cap", "hue", "blue")),
                   (UnknownLabel, {}, ("drop", "ann")),
                   (InvalidName, {}, ("mark", "z z")), (UnknownMark, {}, ("go", "y"))]
        for error, attributes, operation in raising:
            self.check_error(first + [operation], error, **attributes)
            self.check_error(first + [operation, ("mark", "y")], error, **attributes)
        self.check_error([("drop", "zz")], UnknownLabel)
        self.check_error([("undo",), ("undo",), ("undo",), ("drop", "cap")], UnknownLabel)
        self.check_error([("find", "key", Thing(NOT_RED, 3)), ("hand", "ann", "key")], NotFitting)

    def test_the_first_operation_that_raises(self):
        self.check_error([("go", "y"), ("drop", "zz")], UnknownMark)
        self.check_error([("drop", "zz"), ("go", "y")], UnknownLabel)

    def test_malformed_ones_come_first(self):
        self.check_error([("drop", "zz"), ("mark", "y"), ("shut",)], InvalidOperation, index=2)
        self.check_error([("go", "y"), ("undo", 1), ("drop",)], InvalidOperation, index=1)
        self.check_error([("drop",), ("drop", "zz")], InvalidOperation, index=0)

    def test_behind_an_error(self):
        desk, _ = started()
        self.assertRaises(UnknownLabel, desk.apply_all, [("drop", "ann"), ("drop", "ann")])
        self.assertEqual(desk.apply_all([("redo",), ("drop", "ann")]), [True, True])
        self.assertEqual([list(desk.office().claims), len(desk.history)], [["bo"], 5])


class ReplayTest(unittest.TestCase):
    def test_histories(self):
        for seed in range(30):
            desk = Desk(CATALOG)
            results_of(desk, drawn_operations(Random(seed), 30))
            history = desk.history
            replayed = Desk.replay(CATALOG, history)
            self.assertIsInstance(replayed, Desk)
            self.assertEqual(state(replayed), state(desk))
            self.assertIs(replayed.redo(), False)
            self.assertEqual(frozen(history), frozen(desk.history))

    def test_undo_and_redo_in_the_list(self):
        operations = [("undo",), ("find", "cap", Thing(RED, 3)), ("mark", "x"), ("undo",), ("redo",), ("undo",)]
        desk = Desk.replay(CATALOG, operations)
        self.assertEqual([desk.marks, len(desk.history)], [[], 1])
        self.assertEqual([desk.redo(), desk.marks, desk.redo()], [True, ["x"], False])

    def test_no_operations(self):
        desk = Desk.replay(CATALOG, [])
        self.assertEqual((desk.office(), desk.history, desk.undo()), (EMPTY, [], False))

    def test_errors(self):
        with self.assertRaises(InvalidOperation) as caught:
            Desk.replay(CATALOG, [("go", "x"), ("drop", "a", "b")])
        self.assertEqual(caught.exception.index, 1)
        self.assertRaises(UnknownMark, Desk.replay, CATALOG, [("mark", "x"), ("undo",), ("go", "x")])

    def test_each_one_is_new(self):
        operations = [("find", "cap", Thing(RED, 3))]
        one, other = Desk.replay(CATALOG, operations), Desk.replay(CATALOG, operations)
        one.drop("cap")
        operations.clear()
        self.assertEqual((list(other.office().things), len(other.history)), (["cap"], 1))


class TrialTest(unittest.TestCase):
    def change(self, desk):
        desk.redo()
        desk.drop("cap")
        desk.mark("x")
        desk.undo()
        desk.lose("cy", Claim(PLAIN, 1))

    def test_a_block_that_is_not_held(self):
        desk, before = started()
        with Trial(desk) as trial:
            self.assertIsInstance(trial, Trial)
            self.change(desk)
            self.assertEqual(list(desk.office().claims), ["ann", "bo", "cy"])
        self.assertEqual(full_state(desk), before)

    def test_a_block_that_is_held(self):
        desk, _ = started()
        with Trial(desk) as trial:
            self.change(desk)
            self.assertIsNone(trial.hold())
            desk.drop("ann")
            inside = full_state(desk)
        self.assertEqual(full_state(desk), inside)
        self.assertEqual(list(desk.office().claims), ["bo", "cy"])

    def test_the_beginning_of_the_block_counts(self):
        desk, _ = started()
        trial = Trial(desk)
        trial.hold()
        desk.drop("cap")
        before = full_state(desk)
        with trial:
            desk.drop("ann")
        self.assertEqual(full_state(desk), before)
        with trial as held:
            desk.drop("ann")
            held.hold()
        with trial:
            desk.undo()
            desk.undo()
        trial.hold()
        self.assertEqual((desk.office(), full_state(desk)[1:]), (EMPTY, before))

    def test_what_is_undone_in_a_block(self):
        desk, before = started()
        with Trial(desk):
            while desk.undo():
                pass
            self.assertEqual(desk.office(), EMPTY)
        self.assertEqual(full_state(desk), before)
        with Trial(desk):
            desk.undo()
            desk.mark("y")
            self.assertIs(desk.redo(), False)
        self.assertEqual([full_state(desk) == before, desk.redo()], [True, True])

    def test_a_block_that_is_left_by_an_error(self):
        for error in (UnknownLabel, KeyError):
            desk, before = started()
            with self.assertRaises(error), Trial(desk):
                self.change(desk)
                if error is KeyError:
                    raise KeyError("x")
                desk.drop("zz")
            self.assertEqual(full_state(desk), before)
            with self.assertRaises(error), Trial(desk) as trial:
                self.change(desk)
                trial.hold()
                if error is KeyError:
                    raise KeyError("x")
                desk.drop("zz")
            self.assertEqual(list(desk.office().claims), ["ann", "bo", "cy"])

    def test_a_block_that_is_left_by_return(self):
        desk, before = started()

        def leave():
            with Trial(desk):
                self.change(desk)
                return "left"

        self.assertEqual([leave(), full_state(desk) == before], ["left", True])

    def test_blocks_within_blocks(self):
        for outer in (False, True):
            for inner in (False, True):
                desk, before = started()
                with Trial(desk) as trial:
                    desk.drop("ann")
                    middle = full_state(desk)
                    with Trial(desk) as other:
                        desk.drop("cap")
                        inside = full_state(desk)
                        if inner:
                            other.hold()
                        if outer:
                            trial.hold()
                    self.assertEqual(full_state(desk), inside if inner else middle)
                self.assertEqual(full_state(desk), (inside if inner else middle) if outer else before)

    def test_tried(self):
        operations = [("redo",), ("drop", "cap"), ("mark", "x"), ("undo",)]
        desk, before = started()
        told = frozen(operations)
        self.assertEqual(desk.tried(operations, False), [True, True, True, True])
        self.assertEqual((full_state(desk), frozen(operations)), (before, told))
        self.assertEqual(desk.tried(operations, True), [True, True, True, True])
        other, _ = started()
        other.apply_all(operations)
        self.assertEqual((full_state(desk), frozen(operations)), (full_state(other), told))
        self.assertEqual([desk.tried([], True), desk.tried([], False)], [[], []])
        self.assertEqual(full_state(desk), full_state(other))

    def test_tried_in_a_block(self):
        desk, before = started()
        with Trial(desk):
            self.assertEqual(desk.tried([("drop", "cap")], True), [True])
            self.assertFalse("cap" in desk.office())
            self.assertRaises(UnknownLabel, desk.tried, [("drop", "ann"), ("drop", "cap")], True)
            self.assertEqual(list(desk.office().claims), ["ann"])
        self.assertEqual(full_state(desk), before)


if __name__ == "__main__":
    unittest.main()
