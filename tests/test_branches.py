"""Point 21: offices that help one another, and the travel between them."""

import unittest
from itertools import product
from random import Random

from helpers import checked, drawn_office, greatest_matches, plain_fits, told_attributes
from lostdesk.branches import days_apart, joined, meeting_day, travel_match
from lostdesk.catalogs import Catalog
from lostdesk.errors import InvalidOffices, InvalidTravel, NotFitting, UnknownLabel
from lostdesk.notes import Note
from lostdesk.offices import Claim, Office, Thing

FEATURES = (("hue", ("blue", "red")), ("size", ("big", "small")))
CATALOG = Catalog(FEATURES)
NOTE = Note(CATALOG, {})
RED = Note(CATALOG, {"hue": ("red",)})
BLUE = Note(CATALOG, {"hue": ("blue",)})
EMPTY = Office(CATALOG, {}, {})
PLAIN = ((0, 0), (0, 0))
LAST_DAY = 10 ** 18


def simple_office(things, claims, note=NOTE):
    """Return an office with things of day 3 and claims of day 2, by labels that are separated by spaces."""
    found = {label: Thing(note, 3) for label in things.split()}
    return Office(note.catalog, found, {label: Claim(note, 2) for label in claims.split()})


def drawn_branches(random):
    """Return two or three offices, and travel between them."""
    whole = drawn_office(random, 4)
    count = random.randint(2, 3)
    parts = [({}, {}) for _ in range(count)]
    for label, thing in whole.things.items():
        random.choice(parts)[0][label] = thing
    for label, claim in whole.claims.items():
        random.choice(parts)[1][label] = claim
    most = random.choice([1, 3, 99])
    travel = tuple(tuple(random.randint(0, most) if here != there else 0 for there in range(count))
                   for here in range(count))
    return whole, tuple(Office(whole.catalog, *part) for part in parts), travel


def travel_of(offices, travel, claim, thing):
    """Return for how many days a thing travels to a claim."""
    here = [place for place, office in enumerate(offices) if thing in office][0]
    there = [place for place, office in enumerate(offices) if claim in office][0]
    return travel[here][there]


class JoinedTest(unittest.TestCase):
    def check_index(self, offices, index):
        with self.subTest(offices=[list(office.things) + list(office.claims) for office in offices]):
            self.assertEqual(told_attributes(self, InvalidOffices, joined, offices), [index])
            for travel in (PLAIN, (), ((1,),)):
                for call in (travel_match, days_apart):
                    self.assertEqual(told_attributes(self, InvalidOffices, call, offices, travel), [index])
                told = told_attributes(self, InvalidOffices, meeting_day, offices, travel, "zz", "yy")
                self.assertEqual(told, [index])

    def test_two_and_three_offices(self):
        one, two, three = simple_office("d", "a"), simple_office("c b", "e"), simple_office("", "f")
        self.assertEqual(checked(self, joined, (one, two)), simple_office("b c d", "a e"))
        whole = checked(self, joined, (two, three, one))
        self.assertEqual(whole, simple_office("b c d", "a e f"))
        self.assertEqual((list(whole.things), list(whole.claims)), (["b", "c", "d"], ["a", "e", "f"]))

    def test_offices_without_anything(self):
        self.assertEqual(joined((EMPTY, EMPTY)), EMPTY)
        self.assertEqual(joined((EMPTY, EMPTY, simple_office("a", "b"))), simple_office("a", "b"))

    def test_drawn_offices(self):
        for seed in range(40):
            whole, offices, _ = drawn_branches(Random(seed))
            self.assertEqual(checked(self, joined, offices), whole)

    def test_numbers_of_offices(self):
        offices = (simple_office("a", "b"), simple_office("c", "d"), simple_office("e", "f"), simple_office("g", "h"))
        for count in (0, 1, 4):
            self.check_index(offices[:count], count)
        self.check_index((EMPTY,) * 5, 5)
        self.check_index((simple_office("a", ""),) * 4, 4)

    def test_another_catalog(self):
        other = Office(Catalog(FEATURES[:1]), {}, {})
        self.check_index((EMPTY, other), 1)
        self.check_index((other, EMPTY, EMPTY), 1)
        self.check_index((EMPTY, EMPTY, other), 2)
        self.assertEqual(joined((EMPTY, Office(Catalog(FEATURES), {}, {}))), EMPTY)

    def test_labels_that_stand_twice(self):
        for things, claims in (("a", ""), ("", "a"), ("b", ""), ("", "b"), ("c b", "d"), ("c", "d a")):
            self.check_index((simple_office("a", "b"), simple_office(things, claims)), 1)
            self.check_index((simple_office("a", "b"), simple_office("x", "y"), simple_office(things, claims)), 2)
            self.check_index((simple_office("x", "y"), simple_office("a", "b"), simple_office(things, claims)), 2)

    def test_too_many(self):
        eight, claims = "a b c d e f g h", "m n o p q r s t"
        self.assertEqual(len(joined((simple_office("a b c d", ""), simple_office("e f g h", claims))).things), 8)
        self.check_index((simple_office(eight, ""), simple_office("i", "")), 1)
        self.check_index((simple_office("", claims), simple_office("", "u")), 1)
        self.check_index((simple_office(eight, claims), EMPTY, simple_office("", "u")), 2)
        self.check_index((simple_office("a b c", ""), simple_office("d e f", ""), simple_office("g h i", "")), 2)
        self.check_index((simple_office("", "m n o"), simple_office("", "p q r"), simple_office("", "s t u")), 2)

    def test_the_first_of_several(self):
        other = Office(Catalog(FEATURES[:1]), {}, {})
        one, full = simple_office("a", "b"), simple_office("c d e f g h i j", "")
        self.check_index((one, one, other), 1)
        self.check_index((one, other, one), 1)
        self.check_index((one, full, other), 1)
        self.check_index((other, one, other), 1)


class TravelTest(unittest.TestCase):
    def check_index(self, offices, travel, index):
        with self.subTest(travel=travel):
            for call in (travel_match, days_apart):
                self.assertEqual(told_attributes(self, InvalidTravel, call, offices, travel), [index])
            for claim, thing in (("b", "a"), ("zz", "a"), ("b", "zz"), ("a", "b")):
                told = told_attributes(self, InvalidTravel, meeting_day, offices, travel, claim, thing)
                self.assertEqual(told, [index])

    def setUp(self):
        self.two = (simple_office("a", "b"), simple_office("c", "d"))
        self.three = self.two + (simple_office("e", "f"),)

    def test_the_limits(self):
        for travel in (PLAIN, ((0, 99), (99, 0)), ((0, 0), (99, 0)), ((0, 1), (98, 0))):
            self.assertEqual(meeting_day(self.two, travel, "d", "a"), 3 + travel[0][1])

    def test_beyond_the_limits(self):
        for days in (-1, 100, -99, 10 ** 9, True, False):
            self.check_index(self.two, ((0, days), (0, 0)), 0)
            self.check_index(self.two, ((0, 0), (days, 0)), 1)
            self.check_index(self.three, ((0, 0, 0), (0, 0, 0), (0, days, 0)), 2)

    def test_travel_to_itself(self):
        for days in (1, 99, -1, 100, True, False):
            self.check_index(self.two, ((days, 0), (0, 0)), 0)
            self.check_index(self.two, ((0, 0), (0, days)), 1)
            self.check_index(self.three, ((0, 0, 0), (0, 0, 0), (0, 0, days)), 2)

    def test_tuples_that_are_too_short_or_too_long(self):
        for wrong in ((), (0,), (0, 0, 0), (0, 0, 0, 0)):
            self.check_index(self.two, (wrong, (0, 0)), 0)
            self.check_index(self.two, ((0, 0), wrong), 1)
        for wrong in ((), (0,), (0, 0), (0, 0, 0, 0)):
            self.check_index(self.three, ((0, 0, 0), wrong, (0, 0, 0)), 1)

    def test_missing_and_superfluous_tuples(self):
        self.check_index(self.two, (), 0)
        self.check_index(self.two, ((0, 0),), 1)
        self.check_index(self.two, ((0, 0), (0, 0), (0, 0)), 2)
        self.check_index(self.two, ((0, 0), (0, 0), (0, 0), (0, 0)), 2)
        self.check_index(self.three, ((0, 0, 0), (0, 0, 0)), 2)
        self.check_index(self.three, ((0, 0, 0),) * 4, 3)

    def test_the_first_of_several(self):
        self.check_index(self.two, ((0, 100), (0,)), 0)
        self.check_index(self.two, ((0, 1), (0, 5), (7, 7)), 1)
        self.check_index(self.two, ((0,),), 0)
        self.check_index(self.three, ((0, 0, 0), (0, 1)), 1)


class TravelMatchTest(unittest.TestCase):
    def test_no_pairs(self):
        for offices in ((EMPTY, EMPTY), (simple_office("a b", ""), EMPTY), (simple_office("", "a"), EMPTY)):
            self.assertEqual(checked(self, travel_match, offices, ((0, 5), (6, 0))), (0, {}))

    def test_the_way_that_a_thing_travels(self):
        offices = (simple_office("a", ""), simple_office("", "b"))
        self.assertEqual(travel_match(offices, ((0, 5), (6, 0))), (5, {"b": "a"}))
        self.assertEqual(travel_match(offices[::-1], ((0, 5), (6, 0))), (6, {"b": "a"}))

    def test_the_least_sum(self):
        offices = (simple_office("a", "p"), simple_office("b", "q"))
        self.assertEqual(travel_match(offices, ((0, 1), (2, 0))), (0, {"p": "a", "q": "b"}))
        offices = (simple_office("b", "p"), simple_office("a", "q"))
        self.assertEqual(travel_match(offices, ((0, 1), (2, 0))), (0, {"p": "b", "q": "a"}))

    def test_more_pairs_before_fewer_days(self):
        here = Office(CATALOG, {"a": Thing(RED, 3), "b": Thing(BLUE, 3)}, {"p": Claim(NOTE, 1), "q": Claim(RED, 1)})
        there = Office(CATALOG, {}, {"r": Claim(BLUE, 1)})
        self.assertEqual(travel_match((here, there), ((0, 99), (0, 0))), (0, {"p": "b", "q": "a"}))
        self.assertEqual(travel_match((here.without("p"), there), ((0, 99), (0, 0))), (99, {"q": "a", "r": "b"}))

    def test_eight_pairs_that_travel_far(self):
        here, there = simple_office("a b c d e f g h", ""), simple_office("", "m n o p q r s t")
        self.assertEqual(travel_match((here, there), ((0, 99), (0, 0))), (792, dict(zip("mnopqrst", "abcdefgh"))))

    def test_the_first_of_several(self):
        offices = (simple_office("a b", ""), simple_office("", "p q"), simple_office("", "r"))
        self.assertEqual(travel_match(offices, ((0, 4, 4), (0, 0, 0), (0, 0, 0))), (8, {"p": "a", "q": "b"}))
        self.assertEqual(travel_match(offices, ((0, 4, 3), (0, 0, 0), (0, 0, 0))), (7, {"p": "a", "r": "b"}))

    def test_drawn_offices(self):
        for seed in range(150):
            whole, offices, travel = drawn_branches(Random(seed))
            found = greatest_matches(whole)
            sums = [(sum(travel_of(offices, travel, *pair) for pair in pairs), pairs) for pairs in found]
            days, match = checked(self, travel_match, offices, travel)
            self.assertEqual((days, list(match.items())), min(sums))


class MeetingDayTest(unittest.TestCase):
    def test_the_day_and_the_travel(self):
        here = Office(CATALOG, {"a": Thing(NOTE, 7)}, {"p": Claim(NOTE, 7)})
        there = Office(CATALOG, {"b": Thing(NOTE, LAST_DAY)}, {"q": Claim(NOTE, 0)})
        wanted = {("p", "a"): 7, ("q", "a"): 11, ("p", "b"): LAST_DAY + 99, ("q", "b"): LAST_DAY}
        for (claim, thing), day in wanted.items():
            self.assertEqual(checked(self, meeting_day, (here, there), ((0, 4), (99, 0)), claim, thing), day)

    def test_unknown_labels(self):
        offices = (simple_office("a", "p"), simple_office("b", "q"))
        for claim, thing in (("zz", "a"), ("p", "zz"), ("zz", "yy"), ("a", "p"), ("p", "q"), ("a", "b"), ("", "")):
            with self.subTest(claim=claim, thing=thing):
                told = told_attributes(self, UnknownLabel, meeting_day, offices, PLAIN, claim, thing)
                self.assertEqual(len(told), 0)

    def test_pairs_that_do_not_fit(self):
        here = Office(CATALOG, {"a": Thing(RED, 7)}, {"p": Claim(NOTE, 8)})
        there = Office(CATALOG, {}, {"q": Claim(BLUE, 0)})
        for claim in ("p", "q"):
            self.assertEqual(len(told_attributes(self, NotFitting, meeting_day, (here, there), PLAIN, claim, "a")), 0)
        self.assertRaises(UnknownLabel, meeting_day, (here, there), PLAIN, "q", "zz")

    def test_drawn_offices(self):
        for seed in range(60):
            whole, offices, travel = drawn_branches(Random(seed))
            for claim, thing in product(whole.claims, whole.things):
                if plain_fits(whole, claim, thing):
                    day = whole.things[thing].day + travel_of(offices, travel, claim, thing)
                    self.assertEqual(checked(self, meeting_day, offices, travel, claim, thing), day)
                else:
                    self.assertRaises(NotFitting, meeting_day, offices, travel, claim, thing)


class DaysApartTest(unittest.TestCase):
    def test_no_pairs(self):
        for offices in ((EMPTY, EMPTY), (simple_office("a b", ""), EMPTY), (simple_office("", "a"), EMPTY)):
            self.assertIsNone(checked(self, days_apart, offices, ((0, 5), (6, 0))))

    def test_no_days(self):
        here = Office(CATALOG, {"a": Thing(NOTE, 7)}, {"p": Claim(NOTE, 7)})
        self.assertEqual(checked(self, days_apart, (here, EMPTY), ((0, 5), (6, 0))), 0)

    def test_things_are_never_found_before_the_day_of_the_claim(self):
        # A thing of an earlier day does not fit, so that no days apart are below 0.
        here = Office(CATALOG, {"a": Thing(NOTE, 7)}, {"p": Claim(NOTE, 8)})
        self.assertIsNone(days_apart((here, EMPTY), PLAIN))

    def test_the_pair_that_takes_longest(self):
        here = Office(CATALOG, {"a": Thing(RED, 7)}, {"p": Claim(BLUE, 5)})
        there = Office(CATALOG, {"b": Thing(BLUE, 6)}, {"q": Claim(RED, 1)})
        self.assertEqual(days_apart((here, there), ((0, 4), (8, 0))), 10)
        self.assertEqual(days_apart((here, there), ((0, 4), (9, 0))), 10)
        self.assertEqual(days_apart((here, there), ((0, 4), (10, 0))), 11)

    def test_the_best_of_several(self):
        here = Office(CATALOG, {"a": Thing(NOTE, 7), "b": Thing(NOTE, 9)}, {"p": Claim(NOTE, 5), "q": Claim(NOTE, 9)})
        self.assertEqual(days_apart((here, EMPTY), PLAIN), 2)

    def test_most_pairs_before_fewer_days(self):
        here = Office(CATALOG, {"a": Thing(NOTE, 7), "b": Thing(RED, 90)}, {"p": Claim(NOTE, 7), "q": Claim(BLUE, 6)})
        self.assertEqual(days_apart((here, EMPTY), PLAIN), 83)
        self.assertEqual(days_apart((here.without("q"), EMPTY), PLAIN), 0)

    def test_great_days(self):
        here = Office(CATALOG, {"a": Thing(NOTE, LAST_DAY)}, {})
        there = Office(CATALOG, {}, {"p": Claim(NOTE, 0)})
        self.assertEqual(days_apart((here, there), ((0, 99), (0, 0))), LAST_DAY + 99)

    def test_drawn_offices(self):
        found = []
        for seed in range(150):
            whole, offices, travel = drawn_branches(Random(seed))
            days = [[whole.things[thing].day + travel_of(offices, travel, claim, thing) - whole.claims[claim].day
                     for claim, thing in pairs] for pairs in greatest_matches(whole)]
            wanted = min(max(row) for row in days) if days[0] else None
            self.assertEqual(checked(self, days_apart, offices, travel), wanted)
            found.append(wanted)
        self.assertLessEqual({None, 0, 1, 2, 3}, set(found))


if __name__ == "__main__":
    unittest.main()
