"""Point 1, over the whole program: arguments stay as they are, and all answers are the same each time."""

import importlib
import unittest
from copy import deepcopy

from helpers import checked, frozen, spoil
from lostdesk import errors
from lostdesk.catalogs import Catalog
from lostdesk.codec import encode_office
from lostdesk.daybooks import Daybook
from lostdesk.days import Terms
from lostdesk.desks import Desk
from lostdesk.errors import DeskError
from lostdesk.notation import format_office
from lostdesk.notes import Note
from lostdesk.offices import Claim, Office, Thing
from lostdesk.owners import Owners
from test_interface import FUNCTIONS

CATALOG = Catalog((("hue", ("blue", "red")), ("size", ("big", "small"))))
RED = Note(CATALOG, {"hue": ("red",)})
SMALL = Note(CATALOG, {"size": ("small",)})
PLAIN = Note(CATALOG, {})
OFFICE = Office(CATALOG, {"cap": Thing(RED, 3), "key": Thing(PLAIN, 5), "pen": Thing(SMALL, 4)},
                {"ann": Claim(RED, 2, 0, 5), "bob": Claim(SMALL, 4, 1, 2), "cy": Claim(RED, 1), "dee": Claim(RED, 9)})
OTHER = Office(CATALOG, {"hat": Thing(PLAIN, 2)}, {"eve": Claim(PLAIN, 1)})
TERMS = Terms(3, 4)
TRAVEL = ((0, 4), (2, 0))
ASKED = ("thing", "key", "hue")
DAYBOOK = "feature hue blue red\nfind cap 3\nlose ann 2 0 1\nmost\nshare ann cap\nopen"

# Arguments of each function: some by which it returns something, then some by which it raises an error if it can.
CALLS = {
    "misfits": [(OFFICE, "ann", "key"), (OFFICE, "cap", "key")],
    "fits": [(OFFICE, "ann", "cap"), (OFFICE, "ann", "zz")],
    "shared_count": [(OFFICE, "bob", "key"), (OFFICE, "zz", "zz")],
    "candidates": [(OFFICE, "ann"), (OFFICE, "cap"), (OFFICE, "zz")],
    "lonely": [(OFFICE,)],
    "rivals": [(OFFICE, "ann"), (OFFICE, "cap")],
    "match_count": [(OFFICE, 2), (OFFICE, -1), (OFFICE, True)],
    "most_pairs": [(OFFICE,)],
    "first_match": [(OFFICE,)],
    "matches": [(OFFICE,)],
    "judge": [(OFFICE, "ann", "cap"), (OFFICE, "cap", "ann")],
    "sure_pairs": [(OFFICE,)],
    "served": [(OFFICE, "ann"), (OFFICE, "zz")],
    "score": [(OFFICE, "ann", "cap"), (OFFICE, "dee", "cap"), (OFFICE, "zz", "cap")],
    "best_match": [(OFFICE,)],
    "shown_bound": [(OTHER, {"eve": 1, "hat": 1}), (OTHER, {"eve": 1, "hat": 0}), (OTHER, {"eve": True, "hat": 2})],
    "best_prices": [(OFFICE,)],
    "short_group": [(OFFICE,), (OTHER,)],
    "shown_group": [(OFFICE, ["dee", "ann"]), (OFFICE, ["ann", "cap"])],
    "handed": [(OFFICE, "ann", "cap"), (OFFICE, "dee", "cap")],
    "score_loss": [(OFFICE, "cy", "cap"), (OFFICE, "zz", "cap")],
    "pair_loss": [(OFFICE, "cy", "cap"), (OFFICE, "cy", "zz")],
    "lossless": [(OFFICE,)],
    "in_turn": [(OFFICE, ["cy", "ann", "dee", "bob"]), (OFFICE, ["cy", "ann"])],
    "worst_order": [(OFFICE,)],
    "best_order": [(OFFICE,)],
    "open_on": [(OFFICE, TERMS, 5), (OFFICE, TERMS, -1), (OFFICE, TERMS, True)],
    "changes": [(OFFICE, TERMS)],
    "first_day": [(OFFICE, TERMS, 2), (OFFICE, TERMS, 9), (OFFICE, TERMS, False)],
    "served_days": [(OFFICE, TERMS, "key"), (OFFICE, TERMS, "zz")],
    "paired_days": [(OFFICE, TERMS, "ann", "cap"), (OFFICE, TERMS, "cap", "ann")],
    "possible_answers": [(OFFICE, ASKED), (OFFICE, ("claim", "key", "hue"))],
    "answered": [(OFFICE, ASKED, "blue"), (OFFICE, ASKED, "green")],
    "next_question": [(OFFICE, [ASKED, ("claim", "bob", "hue")]), (OFFICE, []), (OFFICE, [ASKED, ASKED])],
    "fewest_questions": [(OFFICE, [ASKED], "ann", "cap"), (OFFICE, [ASKED], "cap", "ann")],
    "false_sets": [(OFFICE,)],
    "cheapest_false": [(OFFICE,)],
    "doubtful": [(OFFICE,)],
    "match_at": [(OFFICE, 0), (OFFICE, True), (OFFICE, 99)],
    "number_of": [(OTHER, {"eve": "hat"}), (OTHER, {})],
    "pair_share": [(OFFICE, "ann", "cap"), (OFFICE, "cap", "ann")],
    "served_share": [(OFFICE, "cap"), (OFFICE, "zz")],
    "joined": [((OFFICE, OTHER),), ((OFFICE, OFFICE),)],
    "travel_match": [((OFFICE, OTHER), TRAVEL), ((OFFICE, OTHER), ((False, 4), (2, 0)))],
    "meeting_day": [((OFFICE, OTHER), TRAVEL, "eve", "cap"), ((OFFICE, OTHER), TRAVEL, "dee", "cap")],
    "days_apart": [((OFFICE, OTHER), TRAVEL), ((OFFICE,), TRAVEL)],
    "handed_at_once": [(OFFICE, ("pen", "cap")), (OFFICE, ("pen", "pen"))],
    "fewest_at_once": [(OFFICE,)],
    "worst_arrival": [(OFFICE,)],
    "good_order": [(OFFICE,)],
    "format_office": [(OFFICE,)],
    "parse_office": [(format_office(OFFICE),), ("feature hue",), (format_office(OFFICE) + "\n",)],
    "table": [(OFFICE,)],
    "encode_office": [(OFFICE,)],
    "decode_office": [(encode_office(OFFICE),), (encode_office(OFFICE)[:-1],), ([True],)],
}
# Attributes and methods of objects, each with its arguments; all of them are asked twice, in each order.
OBJECTS = [
    (lambda: CATALOG, [("features",), ("names",), ("__getitem__", "hue"), ("__getitem__", "odd"), ("__len__",)]),
    (lambda: RED, [("catalog",), ("description_count",), ("both", SMALL), ("narrowed", "hue", "blue"),
                   ("narrowed", "size", "big"), ("__getitem__", "size")]),
    (lambda: OFFICE, [("catalog",), ("things",), ("claims",), ("with_thing", "hat", Thing(RED, 1)),
                      ("with_claim", "cap", Claim(RED, 1)), ("without", "cap"), ("without", "zz")]),
    (lambda: TERMS, [("keep",), ("wait",)]),
    (lambda: Desk.replay(CATALOG, [("find", "cap", Thing(RED, 3)), ("lose", "dee", Claim(RED, 9)), ("mark", "x")]),
     [("marks",), ("history",), ("office",), ("open_claims",), ("drop", "zz"), ("go", "y"),
      ("find", "dee", Thing(RED, 1)), ("apply_all", [("drop", "cap"), ("drop", "cap")]), ("tried", [("drop", "cap")], False), ("redo",)]),
    (lambda: Owners(OFFICE, "cap"), [("remaining",), ("thing_note",), ("telling", ["size", "hue"]), ("telling", []),
                                     ("see", "hue", "blue"), ("see", "odd", "blue"), ("deny", "dee"),
                                     ("see", "hue", "red")]),
    (lambda: Daybook(DAYBOOK), [("results",)]),
]


def asked(value, name, *arguments):
    """Return a copy of what an attribute or a method tells, and change what was returned."""
    try:
        told = getattr(value, name)
        result = told(*arguments) if callable(told) else told
    except DeskError as error:
        return frozen(error)
    copy = deepcopy(result)
    spoil(result)
    return frozen(copy)


class WholeTest(unittest.TestCase):
    def test_each_function_twice(self):
        for module, names in FUNCTIONS.items():
            for name in names:
                function = getattr(importlib.import_module(f"lostdesk.{module}"), name)
                call = (lambda office: list(function(office))) if name == "matches" else function
                for arguments in CALLS[name]:
                    with self.subTest(name=name, arguments=arguments):
                        try:
                            checked(self, call, *arguments)
                        except DeskError as error:
                            self.assertIn(type(error).__name__, vars(errors))

    def test_each_function_stands_in_the_interface(self):
        self.assertEqual(sorted(CALLS), sorted(name for names in FUNCTIONS.values() for name in names))

    def test_each_object_twice(self):
        for made, calls in OBJECTS:
            value = made()
            before = frozen(calls)
            wanted = {frozen(call): asked(value, *call) for call in calls}
            for call in calls + calls[::-1]:
                with self.subTest(call=call):
                    self.assertEqual(asked(value, *call), wanted[frozen(call)])
                    self.assertEqual(asked(made(), *call), wanted[frozen(call)])
            self.assertEqual(frozen(calls), before)

    def test_what_is_handed_in_is_not_kept(self):
        told = {"hue": ("red",)}
        note = Note(CATALOG, told)
        things, claims = {"cap": Thing(note, 3)}, {"ann": Claim(note, 2)}
        office = Office(CATALOG, things, claims)
        before = frozen(office)
        for value in (told, things, claims):
            value.clear()
        self.assertEqual(frozen(office), before)

    def test_errors_are_desk_errors_and_nothing_else(self):
        for error in vars(errors).values():
            if isinstance(error, type):
                self.assertIn(error.__bases__, [(DeskError,), (ValueError,)])


if __name__ == "__main__":
    unittest.main()
