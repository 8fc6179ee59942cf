"""The examples of the document's interface, word for word, by the files under which they stand."""

import unittest

from helpers import run_example

EXAMPLES = {
    "notes": [
        """
>>> from lostdesk.catalogs import Catalog
>>> from lostdesk.notes import Note
>>> catalog = Catalog((("hue", ("blue", "red")), ("size", ("big", "small"))))
>>> note = Note(catalog, {"hue": ("red",)})
>>> [note["size"], note.description_count, note.both(Note(catalog, {"size": ("big",)})).description_count]
[('big', 'small'), 2, 1]
""",
        """
>>> from lostdesk.catalogs import Catalog
>>> from lostdesk.notes import Note
>>> catalog = Catalog((("hue", ("blue", "red")),))
>>> Note(catalog, {"hue": ("red",)}).narrowed("hue", "blue")
raises Conflict(feature='hue')
""",
    ],
    "offices": [
        """
>>> from lostdesk.catalogs import Catalog
>>> from lostdesk.notes import Note
>>> from lostdesk.offices import Claim, Office, Thing
>>> catalog = Catalog((("hue", ("blue", "red")), ("size", ("big", "small"))))
>>> red, small = Note(catalog, {"hue": ("red",)}), Note(catalog, {"size": ("small",)})
>>> things = {"cap": Thing(red, 3), "key": Thing(Note(catalog, {"hue": ("blue",), "size": ("big",)}), 5)}
>>> office = Office(catalog, things, {"ann": Claim(red, 2, 0, 5), "bob": Claim(small, 4, 1, 2), "cy": Claim(red, 1)})
>>> [list(office.without("cy").claims), "key" in office, office.things["cap"].day]
[['ann', 'bob'], True, 3]
""",
        """
>>> from lostdesk.catalogs import Catalog
>>> from lostdesk.notes import Note
>>> from lostdesk.offices import Claim, Office, Thing
>>> note = Note(Catalog((("hue", ("blue", "red")),)), {})
>>> Office(Catalog((("hue", ("blue", "red")),)), {"cap": Thing(note, 3)}, {"ann": Claim(note, 1), "cap": Claim(note, 1)})
raises InvalidOffice(part='claims', label='cap')
""",
    ],
    "fitting": [
        """
>>> from lostdesk.catalogs import Catalog
>>> from lostdesk.notes import Note
>>> from lostdesk.offices import Claim, Office, Thing
>>> catalog = Catalog((("hue", ("blue", "red")), ("size", ("big", "small"))))
>>> red, small = Note(catalog, {"hue": ("red",)}), Note(catalog, {"size": ("small",)})
>>> things = {"cap": Thing(red, 3), "key": Thing(Note(catalog, {"hue": ("blue",), "size": ("big",)}), 5)}
>>> office = Office(catalog, things, {"ann": Claim(red, 2, 0, 5), "bob": Claim(small, 4, 1, 2), "cy": Claim(red, 1)})
>>> from lostdesk.fitting import candidates, fits, lonely, misfits, rivals, shared_count
>>> told = [misfits(office, "bob", "key"), fits(office, "bob", "key"), shared_count(office, "ann", "cap")]
>>> told + [candidates(office, "cap"), rivals(office, "ann"), lonely(office.without("key"))]
[['size'], True, 2, ['ann', 'cy'], ['cy'], ['bob']]
""",
    ],
    "matches": [
        """
>>> from lostdesk.catalogs import Catalog
>>> from lostdesk.notes import Note
>>> from lostdesk.offices import Claim, Office, Thing
>>> catalog = Catalog((("hue", ("blue", "red")), ("size", ("big", "small"))))
>>> red, small = Note(catalog, {"hue": ("red",)}), Note(catalog, {"size": ("small",)})
>>> things = {"cap": Thing(red, 3), "key": Thing(Note(catalog, {"hue": ("blue",), "size": ("big",)}), 5)}
>>> office = Office(catalog, things, {"ann": Claim(red, 2, 0, 5), "bob": Claim(small, 4, 1, 2), "cy": Claim(red, 1)})
>>> from lostdesk.matches import first_match, judge, match_count, matches, most_pairs, served, sure_pairs
>>> told = [match_count(office, 1), most_pairs(office), first_match(office), len(list(matches(office)))]
>>> told + [judge(office, "ann", "cap"), judge(office, "bob", "key"), sure_pairs(office), served(office, "cy")]
[3, 2, {'ann': 'cap', 'bob': 'key'}, 2, 'perhaps', 'surely', {'bob': 'key'}, 'sometimes']
""",
    ],
    "scores": [
        """
>>> from lostdesk.catalogs import Catalog
>>> from lostdesk.notes import Note
>>> from lostdesk.offices import Claim, Office, Thing
>>> catalog = Catalog((("hue", ("blue", "red")), ("size", ("big", "small"))))
>>> red, small = Note(catalog, {"hue": ("red",)}), Note(catalog, {"size": ("small",)})
>>> things = {"cap": Thing(red, 3), "key": Thing(Note(catalog, {"hue": ("blue",), "size": ("big",)}), 5)}
>>> office = Office(catalog, things, {"ann": Claim(red, 2, 0, 5), "bob": Claim(small, 4, 1, 2), "cy": Claim(red, 1)})
>>> from lostdesk.scores import best_match, best_prices, score, shown_bound
>>> prices = {"ann": 10, "bob": 2, "cy": 2, "cap": 0, "key": 0}
>>> [score(office, "bob", "key"), best_match(office), shown_bound(office, prices), shown_bound(office, best_prices(office))]
[2, (12, {'ann': 'cap', 'bob': 'key'}), 14, 12]
""",
        """
>>> from lostdesk.catalogs import Catalog
>>> from lostdesk.notes import Note
>>> from lostdesk.offices import Claim, Office, Thing
>>> catalog = Catalog((("hue", ("blue", "red")), ("size", ("big", "small"))))
>>> red, small = Note(catalog, {"hue": ("red",)}), Note(catalog, {"size": ("small",)})
>>> things = {"cap": Thing(red, 3), "key": Thing(Note(catalog, {"hue": ("blue",), "size": ("big",)}), 5)}
>>> office = Office(catalog, things, {"ann": Claim(red, 2, 0, 5), "bob": Claim(small, 4, 1, 2), "cy": Claim(red, 1)})
>>> from lostdesk.scores import shown_bound
>>> shown_bound(office, {"ann": 9, "bob": 2, "cy": 2, "cap": 0, "key": 0})
raises NotEnough(claim='ann', thing='cap')
""",
    ],
    "groups": [
        """
>>> from lostdesk.catalogs import Catalog
>>> from lostdesk.notes import Note
>>> from lostdesk.offices import Claim, Office, Thing
>>> catalog = Catalog((("hue", ("blue", "red")), ("size", ("big", "small"))))
>>> red, small = Note(catalog, {"hue": ("red",)}), Note(catalog, {"size": ("small",)})
>>> things = {"cap": Thing(red, 3), "key": Thing(Note(catalog, {"hue": ("blue",), "size": ("big",)}), 5)}
>>> office = Office(catalog, things, {"ann": Claim(red, 2, 0, 5), "bob": Claim(small, 4, 1, 2), "cy": Claim(red, 1)})
>>> from lostdesk.groups import short_group, shown_group
>>> [short_group(office), shown_group(office, ["cy", "bob", "ann"]), short_group(office.without("cy"))]
[['ann', 'cy'], 1, None]
""",
    ],
    "handing": [
        """
>>> from lostdesk.catalogs import Catalog
>>> from lostdesk.notes import Note
>>> from lostdesk.offices import Claim, Office, Thing
>>> catalog = Catalog((("hue", ("blue", "red")), ("size", ("big", "small"))))
>>> red, small = Note(catalog, {"hue": ("red",)}), Note(catalog, {"size": ("small",)})
>>> things = {"cap": Thing(red, 3), "key": Thing(Note(catalog, {"hue": ("blue",), "size": ("big",)}), 5)}
>>> office = Office(catalog, things, {"ann": Claim(red, 2, 0, 5), "bob": Claim(small, 4, 1, 2), "cy": Claim(red, 1)})
>>> from lostdesk.handing import handed, in_turn, lossless, pair_loss, score_loss, worst_order
>>> told = [score_loss(office, "cy", "cap"), pair_loss(office, "cy", "cap"), lossless(office)]
>>> told + [in_turn(office, ["cy", "bob", "ann"]), worst_order(handed(office, "bob", "key"))]
[8, 0, [('ann', 'cap'), ('bob', 'key')], {'bob': 'key', 'cy': 'cap'}, (1, ['ann', 'cy'])]
""",
        """
>>> from lostdesk.catalogs import Catalog
>>> from lostdesk.notes import Note
>>> from lostdesk.offices import Claim, Office, Thing
>>> catalog = Catalog((("hue", ("blue", "red")), ("size", ("big", "small"))))
>>> red, small = Note(catalog, {"hue": ("red",)}), Note(catalog, {"size": ("small",)})
>>> things = {"cap": Thing(red, 3), "key": Thing(Note(catalog, {"hue": ("blue",), "size": ("big",)}), 5)}
>>> office = Office(catalog, things, {"ann": Claim(red, 2, 0, 5), "bob": Claim(small, 4, 1, 2), "cy": Claim(red, 1)})
>>> from lostdesk.handing import in_turn
>>> in_turn(office, ["cy", "ann"])
raises InvalidOrder(index=2)
""",
    ],
    "days": [
        """
>>> from lostdesk.catalogs import Catalog
>>> from lostdesk.notes import Note
>>> from lostdesk.offices import Claim, Office, Thing
>>> catalog = Catalog((("hue", ("blue", "red")), ("size", ("big", "small"))))
>>> red, small = Note(catalog, {"hue": ("red",)}), Note(catalog, {"size": ("small",)})
>>> things = {"cap": Thing(red, 3), "key": Thing(Note(catalog, {"hue": ("blue",), "size": ("big",)}), 5)}
>>> office = Office(catalog, things, {"ann": Claim(red, 2, 0, 5), "bob": Claim(small, 4, 1, 2), "cy": Claim(red, 1)})
>>> from lostdesk.days import Terms, changes, first_day, open_on, paired_days, served_days
>>> terms = Terms(3, 4)
>>> told = [list(open_on(office, terms, 5).claims), changes(office, terms), first_day(office, terms, 2)]
>>> told + [served_days(office, terms, "key"), paired_days(office, terms, "ann", "cap")]
[['ann', 'bob'], [(0, 0), (3, 1), (5, 2), (6, 1), (8, 0)], 5, (3, 0), (1, 2)]
""",
    ],
}


class ExamplesTest(unittest.TestCase):
    def test_examples(self):
        for file, examples in EXAMPLES.items():
            for text in examples:
                with self.subTest(file=file, example=text):
                    got, expected = run_example(text)
                    self.assertEqual(got, expected)


if __name__ == "__main__":
    unittest.main()
