"""The interface: what it lists is defined in the file, and in the class, under which it stands."""

import ast
import importlib
import unittest

CLASSES = {
    "catalogs": {"Catalog": ["features", "names", "__getitem__", "__contains__", "__len__", "__eq__"]},
    "notes": {"Note": ["catalog", "description_count", "both", "narrowed", "__getitem__", "__eq__"]},
    "offices": {
        "Thing": ["note", "day", "__eq__"],
        "Claim": ["note", "day", "slips", "worth", "__eq__"],
        "Office": ["catalog", "things", "claims", "with_thing", "with_claim", "without", "__contains__", "__eq__"],
    },
    "days": {"Terms": ["keep", "wait"]},
    "desks": {
        "Desk": ["find", "lose", "hand", "narrow", "go", "drop", "mark", "undo", "redo", "office", "open_claims",
                 "apply_all", "tried", "replay", "marks", "history"],
        "Trial": ["__enter__", "__exit__", "hold"],
    },
    "owners": {"Owners": ["see", "deny", "telling", "thing_note", "remaining"]},
    "daybooks": {"Daybook": ["desk", "results"]},
}
PROPERTIES = {
    "Catalog": ["features", "names"],
    "Note": ["catalog", "description_count"],
    "Thing": ["note", "day"],
    "Claim": ["note", "day", "slips", "worth"],
    "Office": ["catalog", "things", "claims"],
    "Terms": ["keep", "wait"],
    "Desk": ["marks", "history"],
    "Owners": ["remaining"],
    "Daybook": ["results"],
}
FUNCTIONS = {
    "fitting": ["misfits", "fits", "shared_count", "candidates", "lonely", "rivals"],
    "matches": ["match_count", "most_pairs", "first_match", "matches", "judge", "sure_pairs", "served"],
    "scores": ["score", "best_match", "shown_bound", "best_prices"],
    "groups": ["short_group", "shown_group"],
    "handing": ["handed", "score_loss", "pair_loss", "lossless", "in_turn", "worst_order", "best_order"],
    "days": ["open_on", "changes", "first_day", "served_days", "paired_days"],
    "questions": ["possible_answers", "answered", "next_question", "fewest_questions"],
    "falsehoods": ["false_sets", "cheapest_false", "doubtful"],
    "shares": ["match_at", "number_of", "pair_share", "served_share"],
    "branches": ["joined", "travel_match", "meeting_day", "days_apart"],
    "arrivals": ["handed_at_once", "fewest_at_once", "worst_arrival", "good_order"],
    "notation": ["format_office", "parse_office"],
    "tables": ["table"],
    "codec": ["encode_office", "decode_office"],
}
PARAMETERS = {
    ("catalogs", "Catalog"): ["features"],
    ("notes", "Note"): ["catalog", "told"],
    ("notes", "Note.both"): ["other"],
    ("notes", "Note.narrowed"): ["name", "value"],
    ("offices", "Thing"): ["note", "day"],
    ("offices", "Claim"): ["note", "day", "slips", "worth"],
    ("offices", "Office"): ["catalog", "things", "claims"],
    ("offices", "Office.with_thing"): ["label", "thing"],
    ("offices", "Office.with_claim"): ["label", "claim"],
    ("offices", "Office.without"): ["label"],
    ("fitting", "misfits"): ["office", "claim", "thing"],
    ("fitting", "fits"): ["office", "claim", "thing"],
    ("fitting", "shared_count"): ["office", "claim", "thing"],
    ("fitting", "candidates"): ["office", "label"],
    ("fitting", "lonely"): ["office"],
    ("fitting", "rivals"): ["office", "claim"],
    ("matches", "match_count"): ["office", "size"],
    ("matches", "most_pairs"): ["office"],
    ("matches", "first_match"): ["office"],
    ("matches", "matches"): ["office"],
    ("matches", "judge"): ["office", "claim", "thing"],
    ("matches", "sure_pairs"): ["office"],
    ("matches", "served"): ["office", "label"],
    ("scores", "score"): ["office", "claim", "thing"],
    ("scores", "best_match"): ["office"],
    ("scores", "shown_bound"): ["office", "prices"],
    ("scores", "best_prices"): ["office"],
    ("groups", "short_group"): ["office"],
    ("groups", "shown_group"): ["office", "claims"],
    ("handing", "handed"): ["office", "claim", "thing"],
    ("handing", "score_loss"): ["office", "claim", "thing"],
    ("handing", "pair_loss"): ["office", "claim", "thing"],
    ("handing", "lossless"): ["office"],
    ("handing", "in_turn"): ["office", "order"],
    ("handing", "worst_order"): ["office"],
    ("handing", "best_order"): ["office"],
    ("days", "Terms"): ["keep", "wait"],
    ("days", "open_on"): ["office", "terms", "day"],
    ("days", "changes"): ["office", "terms"],
    ("days", "first_day"): ["office", "terms", "number"],
    ("days", "served_days"): ["office", "terms", "label"],
    ("days", "paired_days"): ["office", "terms", "claim", "thing"],
    ("questions", "possible_answers"): ["office", "question"],
    ("questions", "answered"): ["office", "question", "value"],
    ("questions", "next_question"): ["office", "questions"],
    ("questions", "fewest_questions"): ["office", "questions", "claim", "thing"],
    ("falsehoods", "false_sets"): ["office"],
    ("falsehoods", "cheapest_false"): ["office"],
    ("falsehoods", "doubtful"): ["office"],
    ("shares", "match_at"): ["office", "number"],
    ("shares", "number_of"): ["office", "match"],
    ("shares", "pair_share"): ["office", "claim", "thing"],
    ("shares", "served_share"): ["office", "label"],
    ("branches", "joined"): ["offices"],
    ("branches", "travel_match"): ["offices", "travel"],
    ("branches", "meeting_day"): ["offices", "travel", "claim", "thing"],
    ("branches", "days_apart"): ["offices", "travel"],
    ("arrivals", "handed_at_once"): ["office", "order"],
    ("arrivals", "fewest_at_once"): ["office"],
    ("arrivals", "worst_arrival"): ["office"],
    ("arrivals", "good_order"): ["office"],
    ("desks", "Desk"): ["catalog"],
    ("desks", "Desk.find"): ["label", "thing"],
    ("desks", "Desk.lose"): ["label", "claim"],
    ("desks", "Desk.hand"): ["claim", "thing"],
    ("desks", "Desk.narrow"): ["label", "feature", "value"],
    ("desks", "Desk.drop"): ["label"],
    ("desks", "Desk.mark"): ["name"],
    ("desks", "Desk.go"): ["name"],
    ("desks", "Desk.undo"): [],
    ("desks", "Desk.redo"): [],
    ("desks", "Desk.office"): [],
    ("desks", "Desk.open_claims"): [],
    ("desks", "Desk.apply_all"): ["operations"],
    ("desks", "Desk.tried"): ["operations", "keep"],
    ("desks", "Desk.replay"): ["cls", "catalog", "operations"],
    ("desks", "Trial"): ["desk"],
    ("desks", "Trial.hold"): [],
    ("owners", "Owners"): ["office", "thing"],
    ("owners", "Owners.see"): ["feature", "value"],
    ("owners", "Owners.deny"): ["claim"],
    ("owners", "Owners.thing_note"): [],
    ("owners", "Owners.telling"): ["features"],
    ("notation", "format_office"): ["office"],
    ("notation", "parse_office"): ["text"],
    ("tables", "table"): ["office"],
    ("codec", "encode_office"): ["office"],
    ("codec", "decode_office"): ["values"],
    ("daybooks", "Daybook"): ["text"],
    ("daybooks", "Daybook.desk"): [],
}


def tree_of(module):
    """Return the parsed file of a module of the package."""
    with open(importlib.import_module(f"lostdesk.{module}").__file__, encoding="utf-8") as file:
        return ast.parse(file.read())


def defined(body):
    """Return the classes and functions that are defined in the rows of a file or a class."""
    return {row.name: row for row in body if isinstance(row, (ast.ClassDef, ast.FunctionDef))}


class InterfaceTest(unittest.TestCase):
    def test_classes_define_what_is_listed(self):
        for module, classes in CLASSES.items():
            found = defined(tree_of(module).body)
            for name, members in classes.items():
                with self.subTest(module=module, name=name):
                    self.assertIsInstance(found.get(name), ast.ClassDef)
                    self.assertLessEqual(set(members), set(defined(found[name].body)))

    def test_just_what_is_listed_as_a_property_is_one(self):
        for module, classes in CLASSES.items():
            for name, members in classes.items():
                made = getattr(importlib.import_module(f"lostdesk.{module}"), name)
                with self.subTest(module=module, name=name):
                    found = [member for member in members if isinstance(vars(made)[member], property)]
                    self.assertEqual(sorted(found), sorted(PROPERTIES.get(name, [])))

    def test_functions_stand_in_their_files(self):
        for module, names in FUNCTIONS.items():
            found = defined(tree_of(module).body)
            for name in names:
                with self.subTest(module=module, name=name):
                    self.assertIsInstance(found.get(name), ast.FunctionDef)

    def test_parameters_are_named_as_listed(self):
        for (module, path), parameters in PARAMETERS.items():
            with self.subTest(module=module, path=path):
                row = tree_of(module)
                for name in path.split("."):
                    row = defined(row.body)[name]
                row = defined(row.body)["__init__"] if isinstance(row, ast.ClassDef) else row
                names = [one.arg for one in row.args.args if one.arg != "self"]
                self.assertEqual(names, parameters)


if __name__ == "__main__":
    unittest.main()
