"""Points 6 and 7: what fits."""

import unittest
from itertools import product

from helpers import drawn_offices, graph_office, plain_fits, plain_misfits, plain_office
from lostdesk.catalogs import Catalog
from lostdesk.errors import UnknownLabel
from lostdesk.fitting import candidates, fits, lonely, misfits, rivals, shared_count
from lostdesk.notes import Note
from lostdesk.offices import Claim, Office, Thing

CATALOG = Catalog((("size", ("big", "mid", "small")), ("hue", ("blue", "red")), ("form", ("flat", "long", "round")),
                   ("age", ("new", "old"))))


def pair_office(lost, found, slips=0, lost_day=3, found_day=3):
    """Return an office with the claim "ann" and the thing "cap", of which so much is told."""
    claim = Claim(Note(CATALOG, lost), lost_day, slips)
    return Office(CATALOG, {"cap": Thing(Note(CATALOG, found), found_day)}, {"ann": claim})


def counted(office, claim, thing):
    """Return what shared_count is to return, by all descriptions that fit the thing's note."""
    lost, found = office.claims[claim], office.things[thing]
    names = office.catalog.names
    total = 0
    for description in product(*[found.note[name] for name in names]):
        wrong = [name for name, value in zip(names, description) if value not in lost.note[name]]
        total += len(wrong) <= lost.slips
    return total if plain_fits(office, claim, thing) else 0


class MisfitsTest(unittest.TestCase):
    def test_nothing_told(self):
        self.assertEqual(misfits(pair_office({}, {}), "ann", "cap"), [])

    def test_in_the_order_of_the_catalog(self):
        lost = {"age": ("new",), "form": ("flat", "long"), "hue": ("red",), "size": ("big",)}
        found = {"form": ("round",), "age": ("old",), "size": ("mid", "small"), "hue": ("blue",)}
        self.assertEqual(misfits(pair_office(lost, found), "ann", "cap"), ["size", "hue", "form", "age"])
        self.assertEqual(misfits(pair_office(lost, {"age": ("old",), "hue": ("blue",)}), "ann", "cap"), ["hue", "age"])

    def test_common_values(self):
        office = pair_office({"form": ("flat", "long"), "hue": ("red",)}, {"form": ("long", "round")})
        self.assertEqual(misfits(office, "ann", "cap"), [])

    def test_neither_day_nor_slips_matter(self):
        office = pair_office({"hue": ("red",)}, {"hue": ("blue",)}, 2, 5, 3)
        self.assertEqual(misfits(office, "ann", "cap"), ["hue"])
        self.assertEqual(misfits(pair_office({}, {}, 0, 5, 3), "ann", "cap"), [])

    def test_the_list_can_be_changed(self):
        office = pair_office({"hue": ("red",)}, {"hue": ("blue",)})
        misfits(office, "ann", "cap").clear()
        self.assertEqual(misfits(office, "ann", "cap"), ["hue"])


class FitsTest(unittest.TestCase):
    def test_days(self):
        for found_day, expected in ((0, False), (6, False), (7, True), (8, True), (10 ** 18, True)):
            office = pair_office({}, {}, 2, 7, found_day)
            self.assertIs(fits(office, "ann", "cap"), expected)

    def test_slips(self):
        found = {"size": ("big",), "hue": ("blue",), "form": ("flat",), "age": ("old",)}
        wrong = {"size": ("mid",), "hue": ("red",), "form": ("long", "round"), "age": ("new",)}
        for slips in (0, 1, 2):
            for count in range(5):
                lost = {name: wrong[name] for name in list(wrong)[:count]}
                office = pair_office(lost, found, slips)
                with self.subTest(slips=slips, misfits=count):
                    self.assertEqual(len(misfits(office, "ann", "cap")), count)
                    self.assertIs(fits(office, "ann", "cap"), count <= slips)

    def test_both_are_needed(self):
        self.assertIs(fits(pair_office({"hue": ("red",)}, {"hue": ("blue",)}, 0, 3, 2), "ann", "cap"), False)
        self.assertIs(fits(pair_office({"hue": ("red",)}, {"hue": ("blue",)}, 1, 3, 2), "ann", "cap"), False)

    def test_drawn_offices(self):
        for office in drawn_offices(60):
            for claim, thing in product(office.claims, office.things):
                self.assertEqual(misfits(office, claim, thing), plain_misfits(office, claim, thing))
                self.assertIs(fits(office, claim, thing), plain_fits(office, claim, thing))


class SharedCountTest(unittest.TestCase):
    def test_nothing_told(self):
        self.assertEqual(shared_count(pair_office({}, {}), "ann", "cap"), 3 * 2 * 3 * 2)

    def test_without_slips(self):
        office = pair_office({"size": ("big", "mid")}, {"size": ("mid", "small"), "age": ("old",)})
        self.assertEqual(shared_count(office, "ann", "cap"), 1 * 2 * 3 * 1)

    def test_with_slips(self):
        lost, found = {"size": ("big",), "hue": ("red",)}, {"age": ("old",), "form": ("flat",)}
        for slips, expected in ((0, 1), (1, 4), (2, 6)):
            self.assertEqual(shared_count(pair_office(lost, found, slips), "ann", "cap"), expected)

    def test_slips_that_misfits_use(self):
        lost, found = {"size": ("big",), "hue": ("red",)}, {"hue": ("blue",), "age": ("old",), "form": ("flat",)}
        for slips, expected in ((0, 0), (1, 1), (2, 3)):
            self.assertEqual(shared_count(pair_office(lost, found, slips), "ann", "cap"), expected)

    def test_what_does_not_fit(self):
        self.assertEqual(shared_count(pair_office({}, {}, 2, 4, 3), "ann", "cap"), 0)
        self.assertEqual(shared_count(pair_office({"hue": ("red",)}, {"hue": ("blue",)}), "ann", "cap"), 0)

    def test_more_is_told_of_the_thing_than_of_the_claim(self):
        self.assertEqual(shared_count(pair_office({}, {"size": ("big",), "hue": ("red",)}), "ann", "cap"), 6)

    def test_against_a_count_of_all_descriptions(self):
        for office in drawn_offices(120):
            for claim, thing in product(office.claims, office.things):
                self.assertEqual(shared_count(office, claim, thing), counted(office, claim, thing))


class CandidatesTest(unittest.TestCase):
    def test_of_a_claim_and_of_a_thing(self):
        office = graph_office(["bdf", "", "ab", "b"])
        self.assertEqual(candidates(office, "ca"), ["tb", "td", "tf"])
        self.assertEqual(candidates(office, "cb"), [])
        self.assertEqual(candidates(office, "tb"), ["ca", "cc", "cd"])
        self.assertEqual(candidates(office, "ta"), ["cc"])
        self.assertEqual(candidates(office, "th"), [])

    def test_all_fit_all(self):
        office = plain_office(8, 8)
        self.assertEqual(candidates(office, "cd"), list(office.things))
        self.assertEqual(candidates(office, "td"), list(office.claims))
        self.assertEqual(lonely(office), [])

    def test_lonely(self):
        self.assertEqual(lonely(graph_office(["bdf", "", "ab", "b"])), ["cb", "tc", "te", "tg", "th"])
        self.assertEqual(lonely(plain_office(3, 0)), ["ta", "tb", "tc"])
        self.assertEqual(lonely(plain_office(0, 2)), ["ca", "cb"])
        self.assertEqual(lonely(plain_office(0, 0)), [])

    def test_lonely_labels_of_both_parts_ascend_together(self):
        note = Note(CATALOG, {})
        things = {"b": Thing(note, 1), "d": Thing(note, 1)}
        office = Office(CATALOG, things, {"c": Claim(note, 2), "a": Claim(note, 2), "e": Claim(note, 2)})
        self.assertEqual(lonely(office), ["a", "b", "c", "d", "e"])

    def test_rivals(self):
        office = graph_office(["ab", "bc", "cd", "e", "", "e"])
        self.assertEqual(rivals(office, "ca"), ["cb"])
        self.assertEqual(rivals(office, "cb"), ["ca", "cc"])
        self.assertEqual(rivals(office, "cc"), ["cb"])
        self.assertEqual(rivals(office, "cd"), ["cf"])
        self.assertEqual(rivals(office, "ce"), [])
        self.assertEqual(rivals(plain_office(1, 4), "cc"), ["ca", "cb", "cd"])
        self.assertEqual(rivals(plain_office(0, 4), "cc"), [])

    def test_rivals_need_a_thing_that_fits_both(self):
        red, blue = Note(CATALOG, {"hue": ("red",)}), Note(CATALOG, {"hue": ("blue",)})
        claims = {"ann": Claim(red, 1), "bob": Claim(red, 5), "cy": Claim(blue, 1, 1), "dan": Claim(blue, 1)}
        office = Office(CATALOG, {"cap": Thing(red, 4)}, claims)
        self.assertEqual(rivals(office, "ann"), ["cy"])
        self.assertEqual(rivals(office, "bob"), [])

    def test_drawn_offices(self):
        for office in drawn_offices(60):
            things, claims = sorted(office.things), sorted(office.claims)
            fitting = {claim: [thing for thing in things if plain_fits(office, claim, thing)] for claim in claims}
            alone = [claim for claim in claims if not fitting[claim]]
            for claim in claims:
                self.assertEqual(candidates(office, claim), fitting[claim])
                sharing = [other for other in claims if set(fitting[other]) & set(fitting[claim]) and other != claim]
                self.assertEqual(rivals(office, claim), sharing)
            for thing in things:
                wanted = [claim for claim in claims if thing in fitting[claim]]
                self.assertEqual(candidates(office, thing), wanted)
                alone += [] if wanted else [thing]
            self.assertEqual(lonely(office), sorted(alone))

    def test_lists_can_be_changed(self):
        office = plain_office(2, 2)
        for call, label in ((candidates, "ca"), (candidates, "ta"), (rivals, "ca")):
            result = call(office, label)
            result.clear()
            self.assertNotEqual(call(office, label), [])
        self.assertEqual(office, plain_office(2, 2))


class UnknownLabelTest(unittest.TestCase):
    def test_pairs(self):
        office = plain_office(2, 2)
        for call in (misfits, fits, shared_count):
            for claim, thing in (("zz", "ta"), ("ca", "zz"), ("zz", "zz"), ("ta", "ca"), ("ta", "ta"), ("ca", "ca"),
                                 ("", "ta"), ("ca", "")):
                with self.subTest(call=call, claim=claim, thing=thing), self.assertRaises(UnknownLabel):
                    call(office, claim, thing)
        self.assertEqual(office, plain_office(2, 2))

    def test_labels(self):
        office = plain_office(2, 2)
        for label in ("zz", "", "c", "Ca"):
            with self.subTest(label=label), self.assertRaises(UnknownLabel):
                candidates(office, label)
        for label in ("zz", "", "ta", "tb"):
            with self.subTest(label=label), self.assertRaises(UnknownLabel):
                rivals(office, label)
        with self.assertRaises(UnknownLabel):
            candidates(plain_office(0, 0), "ca")

    def test_rivals_of_a_thing_that_nobody_claims(self):
        for office in (plain_office(2, 0), graph_office(["b", "b"])):
            with self.assertRaises(UnknownLabel):
                rivals(office, "ta")


if __name__ == "__main__":
    unittest.main()
