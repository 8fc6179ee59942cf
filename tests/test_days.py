"""Points 15 and 16: what is there on a day, and who is served then."""

import unittest
from itertools import product
from random import Random

from helpers import checked, drawn_offices, greatest_matches, told_attributes
from lostdesk.catalogs import Catalog
from lostdesk.days import Terms, changes, first_day, open_on, paired_days, served_days
from lostdesk.errors import InvalidNumber, InvalidTerms, UnknownLabel
from lostdesk.notes import Note
from lostdesk.offices import Claim, Office, Thing

LONGEST = 10 ** 9
LAST_DAY = 10 ** 18
CATALOG = Catalog((("hue", ("blue", "red")),))
NOTE = Note(CATALOG, {})
RED = Note(CATALOG, {"hue": ("red",)})
BLUE = Note(CATALOG, {"hue": ("blue",)})
EMPTY = Office(CATALOG, {}, {})
# With days up to 6 and terms up to 5, nothing is there any more on the last of these days.
DAYS = range(14)


def of_the_day(office, terms, day):
    """Return the office of a day, entry by entry."""
    things = {label: thing for label, thing in office.things.items() if thing.day <= day <= thing.day + terms.keep - 1}
    claims = {label: claim for label, claim in office.claims.items() if claim.day <= day <= claim.day + terms.wait - 1}
    return Office(office.catalog, things, claims)


def part_days(matches_of_days, is_in, there):
    """Return on how many of the days something is in all, and in some, of the greatest matches of the day."""
    always = sometimes = 0
    for day, found in enumerate(matches_of_days):
        if there(day):
            part = sum(is_in(pairs) for pairs in found)
            always += part == len(found)
            sometimes += 0 < part < len(found)
    return always, sometimes


def drawn_cases(count):
    """Return so many tuples of an office and terms, the same ones each time."""
    random = Random(11)
    return [(office, Terms(random.randint(1, 5), random.randint(1, 5))) for office in drawn_offices(count)]


class TermsTest(unittest.TestCase):
    def check_part(self, keep, wait, part):
        with self.subTest(keep=keep, wait=wait):
            self.assertEqual(told_attributes(self, InvalidTerms, Terms, keep, wait), [part])

    def test_properties(self):
        for keep, wait in ((3, 4), (1, 1), (1, LONGEST), (LONGEST, 1), (LONGEST, LONGEST)):
            terms = Terms(keep, wait)
            self.assertEqual((terms.keep, terms.wait), (keep, wait))
        self.assertEqual(Terms(wait=2, keep=5).keep, 5)

    def test_beyond_the_limits(self):
        for number in (0, -1, -LONGEST, LONGEST + 1, 10 ** 18):
            self.check_part(number, 1, "keep")
            self.check_part(1, number, "wait")

    def test_booleans(self):
        for boolean in (True, False):
            self.check_part(boolean, 1, "keep")
            self.check_part(1, boolean, "wait")

    def test_both_wrong(self):
        for keep, wait in ((0, 0), (LONGEST + 1, -1), (True, 0), (0, True), (False, False)):
            self.check_part(keep, wait, "keep")

    def test_properties_cannot_be_assigned(self):
        for name in ("keep", "wait"):
            with self.assertRaises(AttributeError):
                setattr(Terms(1, 1), name, 1)


class OpenOnTest(unittest.TestCase):
    def labels_on(self, office, terms, day):
        found = checked(self, open_on, office, terms, day)
        return list(found.things) + list(found.claims)

    def test_first_and_last_days(self):
        office = Office(CATALOG, {"cap": Thing(NOTE, 5)}, {"ann": Claim(NOTE, 7)})
        terms = Terms(4, 2)
        wanted = {4: [], 5: ["cap"], 6: ["cap"], 7: ["cap", "ann"], 8: ["cap", "ann"], 9: [], 10: []}
        self.assertEqual({day: self.labels_on(office, terms, day) for day in wanted}, wanted)

    def test_one_day_long(self):
        office = Office(CATALOG, {"cap": Thing(NOTE, 0)}, {"ann": Claim(NOTE, 1)})
        self.assertEqual([self.labels_on(office, Terms(1, 1), day) for day in range(3)], [["cap"], ["ann"], []])

    def test_what_is_there_is_as_it_was(self):
        office = Office(CATALOG, {"cap": Thing(RED, 5)}, {"ann": Claim(BLUE, 5, 2, 9)})
        self.assertEqual(open_on(office, Terms(1, 1), 5), office)
        self.assertEqual(open_on(EMPTY, Terms(1, 1), 0), EMPTY)

    def test_the_farthest_days(self):
        office = Office(CATALOG, {"cap": Thing(NOTE, LAST_DAY)}, {"ann": Claim(NOTE, LAST_DAY)})
        terms = Terms(LONGEST, LONGEST - 1)
        end = LAST_DAY + LONGEST
        wanted = {LAST_DAY - 1: [], LAST_DAY: ["cap", "ann"], end - 2: ["cap", "ann"], end - 1: ["cap"], end: [],
                  2 * LAST_DAY: []}
        self.assertEqual({day: self.labels_on(office, terms, day) for day in wanted}, wanted)

    def test_days_out_of_range(self):
        office = Office(CATALOG, {"cap": Thing(NOTE, 0)}, {})
        for day in (-1, -LAST_DAY, 2 * LAST_DAY + 1, 10 ** 30, True, False):
            for place in (office, EMPTY):
                with self.subTest(day=day):
                    self.assertEqual(len(told_attributes(self, InvalidNumber, open_on, place, Terms(1, 1), day)), 0)

    def test_drawn_offices(self):
        for office, terms in drawn_cases(40):
            for day in DAYS:
                self.assertEqual(checked(self, open_on, office, terms, day), of_the_day(office, terms, day))


class ChangesTest(unittest.TestCase):
    def test_nothing_there(self):
        self.assertEqual(checked(self, changes, EMPTY, Terms(3, 4)), [(0, 0)])
        self.assertEqual(changes(Office(CATALOG, {"cap": Thing(NOTE, 5)}, {}), Terms(3, 4)), [(0, 0)])
        self.assertEqual(changes(Office(CATALOG, {}, {"ann": Claim(NOTE, 0)}), Terms(3, 4)), [(0, 0)])

    def test_day_0(self):
        office = Office(CATALOG, {"cap": Thing(NOTE, 0)}, {"ann": Claim(NOTE, 0)})
        self.assertEqual(changes(office, Terms(3, 4)), [(0, 1), (3, 0)])
        self.assertEqual(changes(office, Terms(3, 1)), [(0, 1), (1, 0)])

    def test_days_on_which_the_number_stays(self):
        # The hat comes as the cap goes, and Bob and the key alone change nothing.
        things = {"cap": Thing(NOTE, 2), "hat": Thing(NOTE, 5), "key": Thing(BLUE, 6)}
        office = Office(CATALOG, things, {"ann": Claim(RED, 1), "bob": Claim(RED, 8)})
        self.assertEqual(changes(office, Terms(3, 7)), [(0, 0), (2, 1), (8, 0)])

    def test_going_and_coming_on_one_day(self):
        things = {"cap": Thing(RED, 1), "hat": Thing(BLUE, 3)}
        office = Office(CATALOG, things, {"ann": Claim(RED, 1), "bob": Claim(BLUE, 3)})
        self.assertEqual(changes(office, Terms(2, 2)), [(0, 0), (1, 1), (5, 0)])
        self.assertEqual(changes(office, Terms(3, 2)), [(0, 0), (1, 1), (5, 0)])
        self.assertEqual(changes(office, Terms(3, 3)), [(0, 0), (1, 1), (3, 2), (4, 1), (6, 0)])

    def test_a_number_that_comes_again(self):
        office = Office(CATALOG, {"cap": Thing(NOTE, 1), "hat": Thing(NOTE, 9)}, {"ann": Claim(NOTE, 0)})
        self.assertEqual(changes(office, Terms(2, 20)), [(0, 0), (1, 1), (3, 0), (9, 1), (11, 0)])

    def test_great_numbers(self):
        office = Office(CATALOG, {"cap": Thing(NOTE, LAST_DAY)}, {"ann": Claim(NOTE, LAST_DAY), "bob": Claim(NOTE, 0)})
        self.assertEqual(changes(office, Terms(LONGEST, LONGEST)), [(0, 0), (LAST_DAY, 1), (LAST_DAY + LONGEST, 0)])

    def test_drawn_offices(self):
        for office, terms in drawn_cases(60):
            numbers = [len(greatest_matches(of_the_day(office, terms, day))[0]) for day in DAYS]
            wanted = [(0, numbers[0])] + [(day, numbers[day]) for day in DAYS[1:] if numbers[day] != numbers[day - 1]]
            self.assertEqual(checked(self, changes, office, terms), wanted)
            for number in range(6):
                days = [day for day in DAYS if numbers[day] >= number]
                self.assertEqual(checked(self, first_day, office, terms, number), days[0] if days else None)


class FirstDayTest(unittest.TestCase):
    def setUp(self):
        things = {"cap": Thing(NOTE, 4), "hat": Thing(NOTE, 6)}
        self.office = Office(CATALOG, things, {"ann": Claim(NOTE, 2), "bob": Claim(NOTE, 3), "cy": Claim(NOTE, 3)})
        self.terms = Terms(3, 9)

    def test_numbers(self):
        wanted = [0, 4, 6, None, None, None]
        self.assertEqual([first_day(self.office, self.terms, number) for number in range(6)], wanted)
        self.assertIsNone(first_day(self.office, self.terms, 10 ** 20))

    def test_never_together(self):
        self.assertEqual([first_day(self.office, Terms(2, 9), number) for number in range(3)], [0, 4, None])
        self.assertEqual([first_day(self.office, Terms(2, 1), number) for number in range(3)], [0, None, None])

    def test_nothing_there(self):
        self.assertEqual([first_day(EMPTY, self.terms, number) for number in range(3)], [0, None, None])

    def test_day_0(self):
        office = Office(CATALOG, {"cap": Thing(NOTE, 0)}, {"ann": Claim(NOTE, 0)})
        self.assertEqual([first_day(office, self.terms, number) for number in range(3)], [0, 0, None])

    def test_great_numbers(self):
        office = Office(CATALOG, {"cap": Thing(NOTE, LAST_DAY)}, {"ann": Claim(NOTE, LAST_DAY + 1 - LONGEST)})
        self.assertEqual(first_day(office, Terms(1, LONGEST), 1), LAST_DAY)
        self.assertIsNone(first_day(office, Terms(1, LONGEST - 1), 1))

    def test_numbers_below_0(self):
        for number in (-1, -2, -LAST_DAY, True, False):
            for office in (self.office, EMPTY):
                with self.subTest(number=number):
                    told = told_attributes(self, InvalidNumber, first_day, office, self.terms, number)
                    self.assertEqual(len(told), 0)


class ServedDaysTest(unittest.TestCase):
    def test_always_and_sometimes(self):
        office = Office(CATALOG, {"cap": Thing(NOTE, 4)}, {"ann": Claim(NOTE, 3), "bob": Claim(NOTE, 4)})
        terms = Terms(5, 4)
        # The cap is there on days 4 to 8, Ann on 3 to 6, Bob on 4 to 7.
        self.assertEqual(checked(self, served_days, office, terms, "ann"), (0, 3))
        self.assertEqual(checked(self, served_days, office, terms, "bob"), (1, 3))
        self.assertEqual(checked(self, served_days, office, terms, "cap"), (4, 0))

    def test_never(self):
        office = Office(CATALOG, {"cap": Thing(RED, 4)}, {"ann": Claim(BLUE, 3), "bob": Claim(RED, 5)})
        self.assertEqual([served_days(office, Terms(9, 9), label) for label in ("ann", "bob", "cap")], [(0, 0)] * 3)

    def test_one_day(self):
        office = Office(CATALOG, {"cap": Thing(NOTE, 0)}, {"ann": Claim(NOTE, 0)})
        for terms in (Terms(1, 1), Terms(1, 5), Terms(5, 1)):
            self.assertEqual(served_days(office, terms, "ann"), (1, 0))

    def test_great_numbers(self):
        things = {"cap": Thing(NOTE, LAST_DAY)}
        office = Office(CATALOG, things, {"ann": Claim(NOTE, LAST_DAY), "bob": Claim(NOTE, LAST_DAY - 10)})
        terms = Terms(LONGEST, LONGEST)
        self.assertEqual(served_days(office, terms, "ann"), (10, LONGEST - 10))
        self.assertEqual(served_days(office, terms, "bob"), (0, LONGEST - 10))
        self.assertEqual(paired_days(office, terms, "ann", "cap"), (10, LONGEST - 10))

    def test_unknown_labels(self):
        office = Office(CATALOG, {"cap": Thing(NOTE, 4)}, {"ann": Claim(NOTE, 3)})
        for label in ("zz", "", "Cap"):
            self.assertEqual(len(told_attributes(self, UnknownLabel, served_days, office, Terms(1, 1), label)), 0)
        self.assertRaises(UnknownLabel, served_days, EMPTY, Terms(1, 1), "cap")

    def test_drawn_offices(self):
        for office, terms in drawn_cases(50):
            offices = [of_the_day(office, terms, day) for day in DAYS]
            found = [greatest_matches(present) for present in offices]
            for label in list(office.things) + list(office.claims):
                wanted = part_days(found, lambda pairs: any(label in pair for pair in pairs),
                                   lambda day: label in offices[day])
                self.assertEqual(checked(self, served_days, office, terms, label), wanted)


class PairedDaysTest(unittest.TestCase):
    def test_surely_and_perhaps(self):
        office = Office(CATALOG, {"cap": Thing(NOTE, 4)}, {"ann": Claim(NOTE, 3), "bob": Claim(NOTE, 4)})
        terms = Terms(5, 4)
        self.assertEqual(checked(self, paired_days, office, terms, "ann", "cap"), (0, 3))
        self.assertEqual(checked(self, paired_days, office, terms, "bob", "cap"), (1, 3))

    def test_never(self):
        office = Office(CATALOG, {"cap": Thing(RED, 4)}, {"ann": Claim(BLUE, 3), "bob": Claim(RED, 5)})
        self.assertEqual([paired_days(office, Terms(9, 9), claim, "cap") for claim in ("ann", "bob")], [(0, 0)] * 2)

    def test_never_there_together(self):
        office = Office(CATALOG, {"cap": Thing(NOTE, 4), "hat": Thing(NOTE, 1)}, {"ann": Claim(NOTE, 1)})
        self.assertEqual(checked(self, paired_days, office, Terms(1, 3), "ann", "cap"), (0, 0))
        self.assertEqual(checked(self, paired_days, office, Terms(1, 3), "ann", "hat"), (1, 0))

    def test_unknown_labels(self):
        office = Office(CATALOG, {"cap": Thing(NOTE, 4)}, {"ann": Claim(NOTE, 3)})
        for claim, thing in (("zz", "cap"), ("ann", "zz"), ("zz", "yy"), ("cap", "ann"), ("cap", "cap"), ("ann", "ann"),
                             ("", "")):
            with self.subTest(claim=claim, thing=thing):
                told = told_attributes(self, UnknownLabel, paired_days, office, Terms(1, 1), claim, thing)
                self.assertEqual(len(told), 0)

    def test_drawn_offices(self):
        for office, terms in drawn_cases(50):
            offices = [of_the_day(office, terms, day) for day in DAYS]
            found = [greatest_matches(present) for present in offices]
            for claim, thing in product(office.claims, office.things):
                wanted = part_days(found, lambda pairs: (claim, thing) in pairs,
                                   lambda day: claim in offices[day] and thing in offices[day])
                self.assertEqual(checked(self, paired_days, office, terms, claim, thing), wanted)


if __name__ == "__main__":
    unittest.main()
