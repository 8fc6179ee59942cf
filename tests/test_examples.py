"""The examples of the document's interface, word for word, by the files under which they stand."""

import unittest

from helpers import run_example

EXAMPLES = {
    "notes": [
        """
>>> from lostdesk.catalogs import Catalog
>>> from lostdesk.notes import Note
>>> catalog = Catalog((("hue", ("blue", "red")), ("size", ("big", "small"))))
>>> note = Note(catalog, {"hue": ("red",)})
>>> [note["size"], note.description_count, note.both(Note(catalog, {"size": ("big",)})).description_count]
[('big', 'small'), 2, 1]
""",
        """
>>> from lostdesk.catalogs import Catalog
>>> from lostdesk.notes import Note
>>> catalog = Catalog((("hue", ("blue", "red")),))
>>> Note(catalog, {"hue": ("red",)}).narrowed("hue", "blue")
raises Conflict(feature='hue')
""",
    ],
    "offices": [
        """
>>> from lostdesk.catalogs import Catalog
>>> from lostdesk.notes import Note
>>> from lostdesk.offices import Claim, Office, Thing
>>> catalog = Catalog((("hue", ("blue", "red")), ("size", ("big", "small"))))
>>> red, small = Note(catalog, {"hue": ("red",)}), Note(catalog, {"size": ("small",)})
>>> things = {"cap": Thing(red, 3), "key": Thing(Note(catalog, {"hue": ("blue",), "size": ("big",)}), 5)}
>>> office = Office(catalog, things, {"ann": Claim(red, 2, 0, 5), "bob": Claim(small, 4, 1, 2), "cy": Claim(red, 1)})
>>> [list(office.without("cy").claims), "key" in office, office.things["cap"].day]
[['ann', 'bob'], True, 3]
""",
        """
>>> from lostdesk.catalogs import Catalog
>>> from lostdesk.notes import Note
>>> from lostdesk.offices import Claim, Office, Thing
>>> note = Note(Catalog((("hue", ("blue", "red")),)), {})
>>> Office(Catalog((("hue", ("blue", "red")),)), {"cap": Thing(note, 3)}, {"ann": Claim(note, 1), "cap": Claim(note, 1)})
raises InvalidOffice(part='claims', label='cap')
""",
    ],
    "fitting": [
        """
>>> from lostdesk.catalogs import Catalog
>>> from lostdesk.notes import Note
>>> from lostdesk.offices import Claim, Office, Thing
>>> catalog = Catalog((("hue", ("blue", "red")), ("size", ("big", "small"))))
>>> red, small = Note(catalog, {"hue": ("red",)}), Note(catalog, {"size": ("small",)})
>>> things = {"cap": Thing(red, 3), "key": Thing(Note(catalog, {"hue": ("blue",), "size": ("big",)}), 5)}
>>> office = Office(catalog, things, {"ann": Claim(red, 2, 0, 5), "bob": Claim(small, 4, 1, 2), "cy": Claim(red, 1)})
>>> from lostdesk.fitting import candidates, fits, lonely, misfits, rivals, shared_count
>>> told = [misfits(office, "bob", "key"), fits(office, "bob", "key"), shared_count(office, "ann", "cap")]
>>> told + [candidates(office, "cap"), rivals(office, "ann"), lonely(office.without("key"))]
[['size'], True, 2, ['ann', 'cy'], ['cy'], ['bob']]
""",
    ],
    "matches": [
        """
>>> from lostdesk.catalogs import Catalog
>>> from lostdesk.notes import Note
>>> from lostdesk.offices import Claim, Office, Thing
>>> catalog = Catalog((("hue", ("blue", "red")), ("size", ("big", "small"))))
>>> red, small = Note(catalog, {"hue": ("red",)}), Note(catalog, {"size": ("small",)})
>>> things = {"cap": Thing(red, 3), "key": Thing(Note(catalog, {"hue": ("blue",), "size": ("big",)}), 5)}
>>> office = Office(catalog, things, {"ann": Claim(red, 2, 0, 5), "bob": Claim(small, 4, 1, 2), "cy": Claim(red, 1)})
>>> from lostdesk.matches import first_match, judge, match_count, matches, most_pairs, served, sure_pairs
>>> told = [match_count(office, 1), most_pairs(office), first_match(office), len(list(matches(office)))]
>>> told + [judge(office, "ann", "cap"), judge(office, "bob", "key"), sure_pairs(office), served(office, "cy")]
[3, 2, {'ann': 'cap', 'bob': 'key'}, 2, 'perhaps', 'surely', {'bob': 'key'}, 'sometimes']
""",
    ],
    "scores": [
        """
>>> from lostdesk.catalogs import Catalog
>>> from lostdesk.notes import Note
>>> from lostdesk.offices import Claim, Office, Thing
>>> catalog = Catalog((("hue", ("blue", "red")), ("size", ("big", "small"))))
>>> red, small = Note(catalog, {"hue": ("red",)}), Note(catalog, {"size": ("small",)})
>>> things = {"cap": Thing(red, 3), "key": Thing(Note(catalog, {"hue": ("blue",), "size": ("big",)}), 5)}
>>> office = Office(catalog, things, {"ann": Claim(red, 2, 0, 5), "bob": Claim(small, 4, 1, 2), "cy": Claim(red, 1)})
>>> from lostdesk.scores import best_match, best_prices, score, shown_bound
>>> prices = {"ann": 10, "bob": 2, "cy": 2, "cap": 0, "key": 0}
>>> [score(office, "bob", "key"), best_match(office), shown_bound(office, prices), shown_bound(office, best_prices(office))]
[2, (12, {'ann': 'cap', 'bob': 'key'}), 14, 12]
""",
        """
>>> from lostdesk.catalogs import Catalog
>>> from lostdesk.notes import Note
>>> from lostdesk.offices import Claim, Office, Thing
>>> catalog = Catalog((("hue", ("blue", "red")), ("size", ("big", "small"))))
>>> red, small = Note(catalog, {"hue": ("red",)}), Note(catalog, {"size": ("small",)})
>>> things = {"cap": Thing(red, 3), "key": Thing(Note(catalog, {"hue": ("blue",), "size": ("big",)}), 5)}
>>> office = Office(catalog, things, {"ann": Claim(red, 2, 0, 5), "bob": Claim(small, 4, 1, 2), "cy": Claim(red, 1)})
>>> from lostdesk.scores import shown_bound
>>> shown_bound(office, {"ann": 9, "bob": 2, "cy": 2, "cap": 0, "key": 0})
raises NotEnough(claim='ann', thing='cap')
""",
    ],
    "groups": [
        """
>>> from lostdesk.catalogs import Catalog
>>> from lostdesk.notes import Note
>>> from lostdesk.offices import Claim, Office, Thing
>>> catalog = Catalog((("hue", ("blue", "red")), ("size", ("big", "small"))))
>>> red, small = Note(catalog, {"hue": ("red",)}), Note(catalog, {"size": ("small",)})
>>> things = {"cap": Thing(red, 3), "key": Thing(Note(catalog, {"hue": ("blue",), "size": ("big",)}), 5)}
>>> office = Office(catalog, things, {"ann": Claim(red, 2, 0, 5), "bob": Claim(small, 4, 1, 2), "cy": Claim(red, 1)})
>>> from lostdesk.groups import short_group, shown_group
>>> [short_group(office), shown_group(office, ["cy", "bob", "ann"]), short_group(office.without("cy"))]
[['ann', 'cy'], 1, None]
""",
    ],
    "handing": [
        """
>>> from lostdesk.catalogs import Catalog
>>> from lostdesk.notes import Note
>>> from lostdesk.offices import Claim, Office, Thing
>>> catalog = Catalog((("hue", ("blue", "red")), ("size", ("big", "small"))))
>>> red, small = Note(catalog, {"hue": ("red",)}), Note(catalog, {"size": ("small",)})
>>> things = {"cap": Thing(red, 3), "key": Thing(Note(catalog, {"hue": ("blue",), "size": ("big",)}), 5)}
>>> office = Office(catalog, things, {"ann": Claim(red, 2, 0, 5), "bob": Claim(small, 4, 1, 2), "cy": Claim(red, 1)})
>>> from lostdesk.handing import handed, in_turn, lossless, pair_loss, score_loss, worst_order
>>> told = [score_loss(office, "cy", "cap"), pair_loss(office, "cy", "cap"), lossless(office)]
>>> told + [in_turn(office, ["cy", "bob", "ann"]), worst_order(handed(office, "bob", "key"))]
[8, 0, [('ann', 'cap'), ('bob', 'key')], {'bob': 'key', 'cy': 'cap'}, (1, ['ann', 'cy'])]
""",
        """
>>> from lostdesk.catalogs import Catalog
>>> from lostdesk.notes import Note
>>> from lostdesk.offices import Claim, Office, Thing
>>> catalog = Catalog((("hue", ("blue", "red")), ("size", ("big", "small"))))
>>> red, small = Note(catalog, {"hue": ("red",)}), Note(catalog, {"size": ("small",)})
>>> things = {"cap": Thing(red, 3), "key": Thing(Note(catalog, {"hue": ("blue",), "size": ("big",)}), 5)}
>>> office = Office(catalog, things, {"ann": Claim(red, 2, 0, 5), "bob": Claim(small, 4, 1, 2), "cy": Claim(red, 1)})
>>> from lostdesk.handing import in_turn
>>> in_turn(office, ["cy", "ann"])
raises InvalidOrder(index=2)
""",
    ],
    "days": [
        """
>>> from lostdesk.catalogs import Catalog
>>> from lostdesk.notes import Note
>>> from lostdesk.offices import Claim, Office, Thing
>>> catalog = Catalog((("hue", ("blue", "red")), ("size", ("big", "small"))))
>>> red, small = Note(catalog, {"hue": ("red",)}), Note(catalog, {"size": ("small",)})
>>> things = {"cap": Thing(red, 3), "key": Thing(Note(catalog, {"hue": ("blue",), "size": ("big",)}), 5)}
>>> office = Office(catalog, things, {"ann": Claim(red, 2, 0, 5), "bob": Claim(small, 4, 1, 2), "cy": Claim(red, 1)})
>>> from lostdesk.days import Terms, changes, first_day, open_on, paired_days, served_days
>>> terms = Terms(3, 4)
>>> told = [list(open_on(office, terms, 5).claims), changes(office, terms), first_day(office, terms, 2)]
>>> told + [served_days(office, terms, "key"), paired_days(office, terms, "ann", "cap")]
[['ann', 'bob'], [(0, 0), (3, 1), (5, 2), (6, 1), (8, 0)], 5, (3, 0), (1, 2)]
""",
    ],
    "questions": [
        """
>>> from lostdesk.catalogs import Catalog
>>> from lostdesk.notes import Note
>>> from lostdesk.offices import Claim, Office, Thing
>>> from lostdesk.questions import answered, fewest_questions, next_question, possible_answers
>>> catalog = Catalog((("color", ("blue", "red")), ("size", ("big", "small"))))
>>> red = Note(catalog, {"color": ("red",)})
>>> plain = Note(catalog, {})
>>> office = Office(catalog, {"bag": Thing(red, 3), "hat": Thing(plain, 5)}, {"ann": Claim(red, 2), "bo": Claim(plain, 1, 0, 4)})
>>> asked = ("thing", "hat", "color")
>>> later = answered(office, asked, "blue")
>>> [possible_answers(office, asked), later.things["hat"].note["color"], next_question(office, [asked]), fewest_questions(office, [asked], "ann", "bag")]
[('blue', 'red'), ('blue',), 0, None]
""",
        """
>>> from lostdesk.catalogs import Catalog
>>> from lostdesk.notes import Note
>>> from lostdesk.offices import Claim, Office, Thing
>>> from lostdesk.questions import next_question
>>> catalog = Catalog((("color", ("blue", "red")), ("size", ("big", "small"))))
>>> red = Note(catalog, {"color": ("red",)})
>>> plain = Note(catalog, {})
>>> office = Office(catalog, {"bag": Thing(red, 3), "hat": Thing(plain, 5)}, {"ann": Claim(red, 2), "bo": Claim(plain, 1, 0, 4)})
>>> next_question(office, [("claim", "bo", "size"), ("claim", "hat", "size")])
raises InvalidQuestion(index=1)
""",
    ],
    "falsehoods": [
        """
>>> from lostdesk.catalogs import Catalog
>>> from lostdesk.notes import Note
>>> from lostdesk.offices import Claim, Office, Thing
>>> from lostdesk.falsehoods import cheapest_false, doubtful, false_sets
>>> catalog = Catalog((("color", ("blue", "red")), ("size", ("big", "small"))))
>>> red = Note(catalog, {"color": ("red",)})
>>> plain = Note(catalog, {})
>>> office = Office(catalog, {"bag": Thing(red, 3)}, {"ann": Claim(red, 2, 0, 5), "bo": Claim(plain, 1, 0, 4), "cy": Claim(red, 9)})
>>> [false_sets(office), cheapest_false(office), doubtful(office)]
[[('ann', 'cy'), ('bo', 'cy')], (5, ('bo', 'cy')), ['ann', 'bo']]
""",
    ],
    "shares": [
        """
>>> from lostdesk.catalogs import Catalog
>>> from lostdesk.notes import Note
>>> from lostdesk.offices import Claim, Office, Thing
>>> from lostdesk.shares import match_at, number_of, pair_share, served_share
>>> catalog = Catalog((("color", ("blue", "red")), ("size", ("big", "small"))))
>>> red = Note(catalog, {"color": ("red",)})
>>> plain = Note(catalog, {})
>>> office = Office(catalog, {"bag": Thing(red, 3), "hat": Thing(plain, 5)}, {"ann": Claim(red, 2), "bo": Claim(plain, 1, 0, 4)})
>>> [match_at(office, 1), number_of(office, {"ann": "bag", "bo": "hat"}), pair_share(office, "ann", "bag"), served_share(office, "hat")]
[{'ann': 'hat', 'bo': 'bag'}, 0, (1, 2), (1, 1)]
""",
        """
>>> from lostdesk.catalogs import Catalog
>>> from lostdesk.notes import Note
>>> from lostdesk.offices import Claim, Office, Thing
>>> from lostdesk.shares import number_of
>>> catalog = Catalog((("color", ("blue", "red")), ("size", ("big", "small"))))
>>> red = Note(catalog, {"color": ("red",)})
>>> plain = Note(catalog, {})
>>> office = Office(catalog, {"bag": Thing(red, 3), "hat": Thing(plain, 5)}, {"ann": Claim(red, 2), "bo": Claim(plain, 1, 0, 4)})
>>> number_of(office, {"ann": "bag"})
raises InvalidMatch()
""",
    ],
    "branches": [
        """
>>> from lostdesk.catalogs import Catalog
>>> from lostdesk.notes import Note
>>> from lostdesk.offices import Claim, Office, Thing
>>> from lostdesk.branches import days_apart, joined, meeting_day, travel_match
>>> catalog = Catalog((("color", ("blue", "red")), ("size", ("big", "small"))))
>>> red = Note(catalog, {"color": ("red",)})
>>> plain = Note(catalog, {})
>>> here = Office(catalog, {"bag": Thing(red, 3)}, {"ann": Claim(red, 2)})
>>> there = Office(catalog, {"hat": Thing(plain, 5)}, {"bo": Claim(plain, 1)})
>>> offices, travel = (here, there), ((0, 4), (2, 0))
>>> [list(joined(offices).claims), travel_match(offices, travel), meeting_day(offices, travel, "ann", "hat"), days_apart(offices, travel)]
[['ann', 'bo'], (0, {'ann': 'bag', 'bo': 'hat'}), 7, 4]
""",
        """
>>> from lostdesk.catalogs import Catalog
>>> from lostdesk.notes import Note
>>> from lostdesk.offices import Claim, Office, Thing
>>> from lostdesk.branches import joined
>>> catalog = Catalog((("color", ("blue", "red")), ("size", ("big", "small"))))
>>> red = Note(catalog, {"color": ("red",)})
>>> plain = Note(catalog, {})
>>> office = Office(catalog, {"bag": Thing(red, 3), "hat": Thing(plain, 5)}, {"ann": Claim(red, 2), "bo": Claim(plain, 1, 0, 4)})
>>> joined((office, office))
raises InvalidOffices(index=1)
""",
    ],
    "arrivals": [
        """
>>> from lostdesk.catalogs import Catalog
>>> from lostdesk.notes import Note
>>> from lostdesk.offices import Claim, Office, Thing
>>> from lostdesk.arrivals import fewest_at_once, good_order, handed_at_once, worst_arrival
>>> catalog = Catalog((("color", ("blue", "red")), ("size", ("big", "small"))))
>>> red = Note(catalog, {"color": ("red",)})
>>> plain = Note(catalog, {})
>>> blue = Note(catalog, {"color": ("blue",)})
>>> office = Office(catalog, {"bag": Thing(blue, 3), "hat": Thing(red, 5)}, {"ann": Claim(plain, 2), "bo": Claim(red, 1)})
>>> [handed_at_once(office, ("hat", "bag")), fewest_at_once(office), worst_arrival(office), good_order(office)]
[{'ann': 'hat'}, 1, ('hat', 'bag'), ('bag', 'hat')]
""",
        """
>>> from lostdesk.catalogs import Catalog
>>> from lostdesk.notes import Note
>>> from lostdesk.offices import Claim, Office, Thing
>>> from lostdesk.arrivals import handed_at_once
>>> catalog = Catalog((("color", ("blue", "red")), ("size", ("big", "small"))))
>>> red = Note(catalog, {"color": ("red",)})
>>> plain = Note(catalog, {})
>>> office = Office(catalog, {"bag": Thing(red, 3), "hat": Thing(plain, 5)}, {"ann": Claim(red, 2), "bo": Claim(plain, 1, 0, 4)})
>>> handed_at_once(office, ("hat", "cap"))
raises InvalidOrder(index=1)
""",
    ],
    "desks": [
        """
>>> from lostdesk.catalogs import Catalog
>>> from lostdesk.notes import Note
>>> from lostdesk.offices import Claim, Office, Thing
>>> from lostdesk.desks import Desk
>>> catalog = Catalog((("color", ("blue", "red")), ("size", ("big", "small"))))
>>> red = Note(catalog, {"color": ("red",)})
>>> plain = Note(catalog, {})
>>> desk = Desk(catalog)
>>> told = desk.apply_all([("find", "bag", Thing(red, 3)), ("lose", "ann", Claim(red, 2)), ("mark", "x"), ("hand", "ann", "bag"), ("go", "x")])
>>> [told, desk.undo(), list(desk.office().claims), desk.marks, desk.open_claims(), len(desk.history)]
[[0, 1, False, 1, 1], True, [], ['x'], [], 4]
""",
        """
>>> from lostdesk.catalogs import Catalog
>>> from lostdesk.notes import Note
>>> from lostdesk.offices import Claim, Office, Thing
>>> from lostdesk.desks import Desk
>>> catalog = Catalog((("color", ("blue", "red")), ("size", ("big", "small"))))
>>> red = Note(catalog, {"color": ("red",)})
>>> plain = Note(catalog, {})
>>> Desk(catalog).apply_all([("undo",), ("drop",)])
raises InvalidOperation(index=1)
""",
    ],
    "owners": [
        """
>>> from lostdesk.catalogs import Catalog
>>> from lostdesk.notes import Note
>>> from lostdesk.offices import Claim, Office, Thing
>>> from lostdesk.owners import Owners
>>> catalog = Catalog((("color", ("blue", "red")), ("size", ("big", "small"))))
>>> red = Note(catalog, {"color": ("red",)})
>>> plain = Note(catalog, {})
>>> small = Note(catalog, {"size": ("small",)})
>>> office = Office(catalog, {"hat": Thing(plain, 5)}, {"ann": Claim(red, 2), "bo": Claim(small, 1), "cy": Claim(red, 5)})
>>> owners = Owners(office, "hat")
>>> [owners.remaining, owners.telling(["color", "size"]), owners.see("color", "blue"), owners.remaining, owners.thing_note()["color"]]
[('ann', 'bo', 'cy'), 'color', 1, ('bo',), ('blue',)]
""",
    ],
    "notation": [
        r"""
>>> from lostdesk.catalogs import Catalog
>>> from lostdesk.notes import Note
>>> from lostdesk.offices import Claim, Office, Thing
>>> from lostdesk.notation import format_office, parse_office
>>> catalog = Catalog((("color", ("blue", "red")), ("size", ("big", "small"))))
>>> red = Note(catalog, {"color": ("red",)})
>>> plain = Note(catalog, {})
>>> office = Office(catalog, {"bag": Thing(red, 3)}, {"ann": Claim(plain, 2, 1, 9)})
>>> text = format_office(office)
>>> [text, parse_office(text) == office]
['feature color blue red\nfeature size big small\nthing bag 3\nis color red\nclaim ann 2 1 9', True]
""",
        r"""
>>> from lostdesk.notation import parse_office
>>> parse_office("feature color blue red\nthing bag 3\nis color green")
raises InvalidText(row=2, word=2)
""",
    ],
    "tables": [
        r"""
>>> from lostdesk.catalogs import Catalog
>>> from lostdesk.notes import Note
>>> from lostdesk.offices import Claim, Office, Thing
>>> from lostdesk.tables import table
>>> catalog = Catalog((("color", ("blue", "red")), ("size", ("big", "small"))))
>>> red = Note(catalog, {"color": ("red",)})
>>> plain = Note(catalog, {})
>>> office = Office(catalog, {"bag": Thing(red, 3), "hat": Thing(plain, 5)}, {"ann": Claim(red, 2), "bo": Claim(plain, 1, 0, 4)})
>>> table(office)
'ann: may may\nbo: may may'
""",
    ],
    "codec": [
        """
>>> from lostdesk.catalogs import Catalog
>>> from lostdesk.notes import Note
>>> from lostdesk.offices import Claim, Office, Thing
>>> from lostdesk.codec import decode_office, encode_office
>>> catalog = Catalog((("color", ("blue", "red")), ("size", ("big", "small"))))
>>> red = Note(catalog, {"color": ("red",)})
>>> plain = Note(catalog, {})
>>> code = encode_office(Office(Catalog((("a", ("b", "c")),)), {}, {"d": Claim(Note(Catalog((("a", ("b", "c")),)), {}), 256)}))
>>> [code, list(decode_office(code).claims)]
[[108, 1, 1, 1, 2, 1, 2, 1, 3, 0, 1, 1, 4, 2, 1, 0, 0, 1, 1, 0, 36], ['d']]
""",
        """
>>> from lostdesk.codec import decode_office
>>> decode_office([108, 1, 1, 27])
raises DecodeError(offset=3)
""",
    ],
    "daybooks": [
        r"""
>>> from lostdesk.daybooks import Daybook
>>> book = Daybook("feature color blue red\nfind bag 3\nfind hat 4\nlose ann 2 0 1\nshare ann bag\nnarrow ann color red\nhand ann hat\nmost\nopen")
>>> [book.results, list(book.desk().office().things)]
['1/2\n0\n-', ['bag']]
""",
        r"""
>>> from lostdesk.daybooks import Daybook
>>> Daybook("feature color blue red\nfind bag 3\ndrop hat")
raises DaybookError(row=2, word=0)
""",
    ],
}


class ExamplesTest(unittest.TestCase):
    def test_examples(self):
        for file, examples in EXAMPLES.items():
            for text in examples:
                with self.subTest(file=file, example=text):
                    got, expected = run_example(text)
                    self.assertEqual(got, expected)


if __name__ == "__main__":
    unittest.main()
