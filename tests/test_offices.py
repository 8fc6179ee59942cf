"""Points 4 and 5: things, claims and offices."""

import unittest

from helpers import EIGHT
from lostdesk.catalogs import Catalog
from lostdesk.errors import InvalidEntry, InvalidOffice, UnknownLabel
from lostdesk.notes import Note
from lostdesk.offices import Claim, Office, Thing

FEATURES = (("hue", ("blue", "red")), ("size", ("big", "small")))
CATALOG = Catalog(FEATURES)
NOTE = Note(CATALOG, {})
RED = Note(CATALOG, {"hue": ("red",)})
FOREIGN = Note(Catalog(FEATURES[:1]), {})
NO_WORDS = ["", "Cap", "caP", "abcdefghi", "cap1", "7", "a b", " ", "cap ", "-", "c-p", "cap\n", "{", "`", "\u00e4"]


class EntriesTest(unittest.TestCase):
    def check_part(self, call, part):
        with self.assertRaises(InvalidEntry) as caught:
            call()
        self.assertEqual(caught.exception.part, part)

    def test_thing(self):
        thing = Thing(RED, 3)
        self.assertEqual(thing.note, RED)
        self.assertEqual(thing.day, 3)

    def test_claim(self):
        claim = Claim(RED, 2, 1, 5)
        self.assertEqual([claim.note, claim.day, claim.slips, claim.worth], [RED, 2, 1, 5])
        claim = Claim(note=RED, day=2, worth=7, slips=2)
        self.assertEqual([claim.note, claim.day, claim.slips, claim.worth], [RED, 2, 2, 7])

    def test_claim_with_default_values(self):
        claim = Claim(RED, 2)
        self.assertEqual([claim.slips, claim.worth], [0, 1])
        self.assertEqual([Claim(RED, 2, 2).slips, Claim(RED, 2, 2).worth], [2, 1])

    def test_limits_of_day(self):
        for day in (0, 1, 10 ** 18 - 1, 10 ** 18):
            self.assertEqual(Thing(NOTE, day).day, day)
            self.assertEqual(Claim(NOTE, day).day, day)
        for day in (-1, -2, -10 ** 18, 10 ** 18 + 1, 10 ** 30):
            self.check_part(lambda: Thing(NOTE, day), "day")
            self.check_part(lambda: Claim(NOTE, day), "day")

    def test_limits_of_slips(self):
        for slips in (0, 1, 2):
            self.assertEqual(Claim(NOTE, 0, slips).slips, slips)
        for slips in (-2, -1, 3, 4, 100):
            self.check_part(lambda: Claim(NOTE, 0, slips), "slips")

    def test_limits_of_worth(self):
        for worth in (1, 2, 10 ** 9 - 1, 10 ** 9):
            self.assertEqual(Claim(NOTE, 0, 0, worth).worth, worth)
        for worth in (-1, 0, 10 ** 9 + 1, 10 ** 18):
            self.check_part(lambda: Claim(NOTE, 0, 0, worth), "worth")

    def test_booleans_are_no_integers(self):
        for boolean in (True, False):
            with self.subTest(boolean=boolean):
                self.check_part(lambda: Thing(NOTE, boolean), "day")
                self.check_part(lambda: Claim(NOTE, boolean), "day")
                self.check_part(lambda: Claim(NOTE, 5, boolean, 1), "slips")
                self.check_part(lambda: Claim(NOTE, 5, 0, boolean), "worth")

    def test_the_first_part_that_is_wrong(self):
        self.check_part(lambda: Claim(NOTE, -1, 3, 0), "day")
        self.check_part(lambda: Claim(NOTE, True, 3, 0), "day")
        self.check_part(lambda: Claim(NOTE, 0, True, 0), "slips")
        self.check_part(lambda: Claim(NOTE, 0, 3, True), "slips")
        self.check_part(lambda: Claim(NOTE, 10 ** 18 + 1, 0, 0), "day")
        self.check_part(lambda: Claim(NOTE, -1, 3), "day")
        self.check_part(lambda: Claim(NOTE, 0, 3, 0), "slips")
        self.check_part(lambda: Claim(NOTE, 0, -1, 10 ** 9 + 1), "slips")

    def test_equal_things(self):
        self.assertTrue(Thing(RED, 3) == Thing(Note(Catalog(FEATURES), {"hue": ("red",)}), 3))
        self.assertFalse(Thing(RED, 3) != Thing(RED, 3))
        self.assertFalse(Thing(RED, 3) == Thing(RED, 4))
        self.assertFalse(Thing(RED, 3) == Thing(NOTE, 3))
        self.assertTrue(Thing(RED, 3) != Thing(RED, 4))

    def test_equal_claims(self):
        self.assertTrue(Claim(RED, 3) == Claim(Note(Catalog(FEATURES), {"hue": ("red",)}), 3, 0, 1))
        self.assertFalse(Claim(RED, 3) != Claim(RED, 3))
        for other in (Claim(NOTE, 3, 1, 5), Claim(RED, 4, 1, 5), Claim(RED, 3, 2, 5), Claim(RED, 3, 1, 6)):
            self.assertFalse(Claim(RED, 3, 1, 5) == other)
            self.assertTrue(Claim(RED, 3, 1, 5) != other)

    def test_a_thing_is_no_claim(self):
        self.assertFalse(Thing(RED, 3) == Claim(RED, 3))
        self.assertFalse(Claim(RED, 3) == Thing(RED, 3))
        self.assertFalse(Thing(RED, 3) == None)  # noqa: E711
        self.assertFalse(Claim(RED, 3) == "cap")

    def test_properties_cannot_be_assigned(self):
        for entry, names in ((Thing(RED, 3), ["note", "day"]), (Claim(RED, 3), ["note", "day", "slips", "worth"])):
            for name in names:
                with self.subTest(name=name), self.assertRaises(AttributeError):
                    setattr(entry, name, getattr(entry, name))


class InvalidOfficeTest(unittest.TestCase):
    def check_office(self, things, claims, part, label):
        with self.subTest(things=list(things), claims=list(claims)):
            with self.assertRaises(InvalidOffice) as caught:
                Office(CATALOG, things, claims)
            self.assertEqual((caught.exception.part, caught.exception.label), (part, label))

    def test_labels_that_are_no_words(self):
        for label in NO_WORDS:
            self.check_office({"bag": Thing(NOTE, 1), label: Thing(NOTE, 1)}, {}, "things", label)
            self.check_office({}, {"ann": Claim(NOTE, 1), label: Claim(NOTE, 1)}, "claims", label)

    def test_notes_with_another_catalog(self):
        self.check_office({"cap": Thing(FOREIGN, 1), "bag": Thing(NOTE, 1)}, {}, "things", "cap")
        self.check_office({"cap": Thing(NOTE, 1)}, {"ann": Claim(NOTE, 1), "bob": Claim(FOREIGN, 1)}, "claims", "bob")

    def test_labels_in_both_dicts(self):
        self.check_office({"cap": Thing(NOTE, 1)}, {"ann": Claim(NOTE, 1), "cap": Claim(NOTE, 1)}, "claims", "cap")
        self.check_office({"cap": Thing(NOTE, 1), "bag": Thing(NOTE, 1)},
                          {"cap": Claim(NOTE, 1), "bag": Claim(NOTE, 1)}, "claims", "bag")

    def test_the_least_of_several_wrong_labels(self):
        wrong = {"key": Thing(FOREIGN, 1), "cap": Thing(FOREIGN, 1), "bag": Thing(NOTE, 1), "zz9": Thing(NOTE, 1)}
        self.check_office(wrong, {}, "things", "cap")
        self.check_office({**wrong, "b9": Thing(NOTE, 1)}, {}, "things", "b9")
        self.check_office({**wrong, "Z": Thing(NOTE, 1)}, {}, "things", "Z")
        claims = {"key": Claim(NOTE, 1), "dan": Claim(FOREIGN, 1), "e9": Claim(NOTE, 1), "cy": Claim(NOTE, 1)}
        self.check_office({"key": Thing(NOTE, 1)}, claims, "claims", "dan")
        self.check_office({"key": Thing(NOTE, 1), "cy": Thing(NOTE, 1)}, claims, "claims", "cy")
        self.check_office({"key": Thing(NOTE, 1)}, {**claims, "d9": Claim(NOTE, 1)}, "claims", "d9")

    def test_things_before_claims(self):
        self.check_office({"key": Thing(FOREIGN, 1)}, {"ann": Claim(FOREIGN, 1)}, "things", "key")
        self.check_office({"z9": Thing(NOTE, 1)}, {"A": Claim(NOTE, 1)}, "things", "z9")

    def test_eight_are_not_too_many(self):
        things = {"t" + letter: Thing(NOTE, 1) for letter in EIGHT}
        claims = {"c" + letter: Claim(NOTE, 1) for letter in EIGHT}
        office = Office(CATALOG, things, claims)
        self.assertEqual((office.things, office.claims), (things, claims))

    def test_a_ninth_thing_and_a_ninth_claim(self):
        things = {"t" + letter: Thing(NOTE, 1) for letter in "ihgfedcba"}
        claims = {"c" + letter: Claim(NOTE, 1) for letter in "jihgfedcba"}
        self.check_office(things, {}, "things", "ti")
        self.check_office({}, claims, "claims", "ci")
        self.check_office(things, claims, "things", "ti")
        self.check_office(things, {"C": Claim(NOTE, 1)}, "things", "ti")
        self.check_office({}, {**claims, "b": Claim(NOTE, 1)}, "claims", "ch")

    def test_wrong_labels_before_the_ninth(self):
        things = {"t" + letter: Thing(NOTE, 1) for letter in "abcdefghi"}
        self.check_office({**things, "u9": Thing(NOTE, 1)}, {}, "things", "u9")
        self.check_office({**things, "zz": Thing(FOREIGN, 1)}, {}, "things", "zz")
        claims = {"c" + letter: Claim(NOTE, 1) for letter in "abcdefghi"}
        self.check_office({"key": Thing(NOTE, 1)}, {**claims, "key": Claim(NOTE, 1)}, "claims", "key")

    def test_dicts_that_are_wrong_stay_as_they_are(self):
        things = {"key": Thing(NOTE, 1), "cap": Thing(FOREIGN, 1)}
        self.check_office(things, {}, "things", "cap")
        self.assertEqual(list(things), ["key", "cap"])


class OfficeTest(unittest.TestCase):
    def setUp(self):
        self.things = {"key": Thing(NOTE, 5), "cap": Thing(RED, 3)}
        self.claims = {"cy": Claim(RED, 1), "ann": Claim(RED, 2, 0, 5), "bob": Claim(NOTE, 4, 1)}
        self.office = Office(CATALOG, self.things, self.claims)

    def check_unchanged(self):
        things = {"cap": Thing(RED, 3), "key": Thing(NOTE, 5)}
        claims = {"ann": Claim(RED, 2, 0, 5), "bob": Claim(NOTE, 4, 1), "cy": Claim(RED, 1)}
        self.assertEqual((self.office.catalog, self.office.things, self.office.claims), (CATALOG, things, claims))
        self.assertEqual(self.office, Office(CATALOG, things, claims))

    def test_properties_in_ascending_order(self):
        self.assertEqual(self.office.catalog, CATALOG)
        self.assertEqual(list(self.office.things.items()), [("cap", Thing(RED, 3)), ("key", Thing(NOTE, 5))])
        self.assertEqual(list(self.office.claims), ["ann", "bob", "cy"])
        self.assertEqual(self.office.claims, self.claims)

    def test_no_things_and_no_claims(self):
        office = Office(CATALOG, {}, {})
        self.assertEqual((office.things, office.claims), ({}, {}))
        self.assertFalse("cap" in office)

    def test_an_equal_catalog(self):
        office = Office(Catalog(FEATURES), self.things, self.claims)
        self.assertEqual(office, self.office)

    def test_in(self):
        for label in ("cap", "key", "ann", "bob", "cy"):
            self.assertIs(label in self.office, True)
        for label in ("bag", "", "hue", "Cap", "ca", "things"):
            self.assertIs(label in self.office, False)

    def test_with_a_new_thing(self):
        office = self.office.with_thing("hat", Thing(RED, 9))
        self.assertEqual(list(office.things), ["cap", "hat", "key"])
        self.assertEqual(office.things["hat"], Thing(RED, 9))
        self.assertEqual(office.claims, self.claims)
        self.check_unchanged()

    def test_with_a_new_claim(self):
        office = self.office.with_claim("al", Claim(RED, 9))
        self.assertEqual(list(office.claims), ["al", "ann", "bob", "cy"])
        self.assertEqual(office.claims["al"], Claim(RED, 9))
        self.assertEqual(office.things, self.things)
        self.check_unchanged()

    def test_replacing(self):
        office = self.office.with_thing("cap", Thing(NOTE, 8)).with_claim("bob", Claim(RED, 7))
        self.assertEqual(list(office.things.items()), [("cap", Thing(NOTE, 8)), ("key", Thing(NOTE, 5))])
        self.assertEqual(list(office.claims), ["ann", "bob", "cy"])
        self.assertEqual(office.claims["bob"], Claim(RED, 7))
        self.check_unchanged()

    def test_replacing_among_eight(self):
        things = {"t" + letter: Thing(NOTE, 1) for letter in EIGHT}
        claims = {"c" + letter: Claim(NOTE, 1) for letter in EIGHT}
        office = Office(CATALOG, things, claims).with_thing("tb", Thing(RED, 2)).with_claim("cc", Claim(RED, 3))
        self.assertEqual((office.things["tb"], office.claims["cc"]), (Thing(RED, 2), Claim(RED, 3)))
        self.assertEqual((len(office.things), len(office.claims)), (8, 8))

    def check_wrong(self, call, part, label):
        with self.subTest(part=part, label=label):
            with self.assertRaises(InvalidOffice) as caught:
                call()
            self.assertEqual((caught.exception.part, caught.exception.label), (part, label))

    def test_with_a_wrong_thing(self):
        self.check_wrong(lambda: self.office.with_thing("Hat", Thing(RED, 9)), "things", "Hat")
        self.check_wrong(lambda: self.office.with_thing("hat", Thing(FOREIGN, 9)), "things", "hat")
        self.check_wrong(lambda: self.office.with_thing("cap", Thing(FOREIGN, 9)), "things", "cap")
        self.check_wrong(lambda: self.office.with_thing("ann", Thing(RED, 9)), "claims", "ann")
        self.check_unchanged()

    def test_with_a_wrong_claim(self):
        self.check_wrong(lambda: self.office.with_claim("d9", Claim(RED, 9)), "claims", "d9")
        self.check_wrong(lambda: self.office.with_claim("dan", Claim(FOREIGN, 9)), "claims", "dan")
        self.check_wrong(lambda: self.office.with_claim("cap", Claim(RED, 9)), "claims", "cap")
        self.check_unchanged()

    def test_with_a_ninth(self):
        things = {"t" + letter: Thing(NOTE, 1) for letter in EIGHT}
        claims = {"c" + letter: Claim(NOTE, 1) for letter in EIGHT}
        office = Office(CATALOG, things, claims)
        self.check_wrong(lambda: office.with_thing("a", Thing(NOTE, 1)), "things", "th")
        self.check_wrong(lambda: office.with_thing("zz", Thing(NOTE, 1)), "things", "zz")
        self.check_wrong(lambda: office.with_claim("a", Claim(NOTE, 1)), "claims", "ch")
        self.check_wrong(lambda: office.with_claim("zz", Claim(NOTE, 1)), "claims", "zz")

    def test_without(self):
        office = self.office.without("cap")
        self.assertEqual((office.things, office.claims), ({"key": Thing(NOTE, 5)}, self.claims))
        office = self.office.without("ann")
        self.assertEqual((office.things, list(office.claims)), (self.things, ["bob", "cy"]))
        self.assertFalse("ann" in office)
        self.check_unchanged()

    def test_without_what_is_not_there(self):
        for label in ("bag", "", "Cap", "hue"):
            with self.subTest(label=label), self.assertRaises(UnknownLabel):
                self.office.without(label)
        with self.assertRaises(UnknownLabel):
            self.office.without("cap").without("cap")
        self.check_unchanged()

    def test_a_label_that_was_taken_out_can_be_used_for_the_other_part(self):
        office = self.office.without("cap").with_claim("cap", Claim(RED, 3))
        self.assertEqual((list(office.things), list(office.claims)), (["key"], ["ann", "bob", "cap", "cy"]))

    def test_dicts_that_were_given_are_neither_kept_nor_changed(self):
        self.assertEqual((list(self.things), list(self.claims)), (["key", "cap"], ["cy", "ann", "bob"]))
        self.things["hat"] = Thing(NOTE, 1)
        del self.things["cap"]
        self.claims.clear()
        self.check_unchanged()

    def test_dicts_that_were_returned_can_be_changed(self):
        things, claims = self.office.things, self.office.claims
        things["hat"] = Thing(NOTE, 1)
        del things["cap"]
        claims.clear()
        self.check_unchanged()

    def test_equal(self):
        other = Office(Catalog(FEATURES), dict(sorted(self.things.items())), dict(sorted(self.claims.items())))
        self.assertTrue(self.office == other)
        self.assertFalse(self.office != other)
        self.assertTrue(self.office.without("cap").with_thing("cap", Thing(RED, 3)) == self.office)

    def test_unequal(self):
        others = [self.office.without("cap"), self.office.without("bob"), self.office.with_thing("cap", Thing(RED, 4)),
                  self.office.with_claim("bob", Claim(NOTE, 4, 2)), self.office.with_thing("hat", Thing(RED, 4)),
                  self.office.without("cap").with_thing("caps", Thing(RED, 3)), Office(CATALOG, {}, {})]
        for other in others:
            self.assertFalse(self.office == other)
            self.assertTrue(self.office != other)

    def test_unequal_with_another_catalog(self):
        self.assertFalse(Office(CATALOG, {}, {}) == Office(Catalog(FEATURES[:1]), {}, {}))
        self.assertFalse(Office(CATALOG, {}, {}) == Office(Catalog(FEATURES[::-1]), {}, {}))

    def test_unequal_to_what_is_no_office(self):
        self.assertFalse(self.office == CATALOG)
        self.assertFalse(self.office == None)  # noqa: E711
        self.assertTrue(self.office != self.things)

    def test_properties_cannot_be_assigned(self):
        for name in ("catalog", "things", "claims"):
            with self.subTest(name=name), self.assertRaises(AttributeError):
                setattr(self.office, name, getattr(self.office, name))


if __name__ == "__main__":
    unittest.main()
