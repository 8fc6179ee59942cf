"""Point 12: groups of claims that cannot all be served."""

import unittest
from itertools import combinations

from helpers import (all_matches, checked, drawn_offices, graph_office, greatest_matches, plain_fits, plain_office,
                     told_attributes)
from lostdesk.errors import InvalidGroup
from lostdesk.groups import short_group, shown_group


def fitting_some(office, group):
    """Return the things that fit some claims of a group."""
    return [thing for thing in office.things if any(plain_fits(office, claim, thing) for claim in group)]


def wanted_group(office):
    """Return what short_group is to return, by all groups of claims, shortest first."""
    labels = sorted(office.claims)
    groups = [list(group) for size in range(len(labels) + 1) for group in combinations(labels, size)]
    short = [group for group in groups if len(fitting_some(office, group)) < len(group)]
    return short[0] if short else None


def least_without(office, group):
    """Return how many claims of a group at least go without a thing, by all matches."""
    return min(len([claim for claim in group if claim not in dict(pairs)]) for pairs in all_matches(office))


class ShortGroupTest(unittest.TestCase):
    def check(self, office, group):
        self.assertEqual(checked(self, short_group, office), group)

    def test_no_claims(self):
        self.check(plain_office(0, 0), None)
        self.check(plain_office(3, 0), None)

    def test_no_things(self):
        self.check(plain_office(0, 1), ["ca"])
        self.check(plain_office(0, 3), ["ca"])

    def test_all_can_be_served(self):
        self.check(plain_office(3, 3), None)
        self.check(plain_office(8, 8), None)
        self.check(graph_office(["ab", "a", "bc"]), None)

    def test_a_claim_that_nothing_fits(self):
        self.check(graph_office(["a", "a", ""]), ["cc"])
        self.check(graph_office(["a", "", "a", ""]), ["cb"])

    def test_the_shortest(self):
        self.check(graph_office(["ab", "ab", "ab", "d", "d"]), ["cd", "ce"])
        self.check(graph_office(["ab", "c", "ab", "d", "ab"]), ["ca", "cc", "ce"])

    def test_the_first_of_several(self):
        self.check(graph_office(["ab", "d", "ab", "d", "ab", "d"]), ["cb", "cd"])
        self.check(graph_office(["f", "b", "d", "b", "d", "b"]), ["cb", "cd"])
        self.check(graph_office(["b", "d", "d", "b"]), ["ca", "cd"])
        self.check(graph_office(["d", "b", "b", "d"]), ["ca", "cd"])

    def test_all_claims_are_the_group(self):
        self.check(plain_office(7, 8), ["c" + letter for letter in "abcdefgh"])
        self.check(graph_office(["a", "ab", "bc", "cd", "d"]), ["ca", "cb", "cc", "cd", "ce"])

    def test_drawn_offices(self):
        offices = drawn_offices(150) + drawn_offices(10, 6)
        fewer = [office for office in offices if len(office.things) < len(office.claims)]
        self.assertGreater(len(fewer), 40)
        for office in offices:
            self.check(office, wanted_group(office))
            all_served = len(greatest_matches(office)[0]) == len(office.claims)
            self.assertIs(short_group(office) is None, all_served)


class ShownGroupTest(unittest.TestCase):
    def check_index(self, office, claims, index):
        with self.subTest(claims=claims):
            self.assertEqual(told_attributes(self, InvalidGroup, shown_group, office, claims), [index])

    def test_ordinary_groups(self):
        office = graph_office(["ab", "ab", "ab", "", "a", "cd"])
        for claims, number in ((["ca", "cb"], 0), (["ca", "cb", "cc"], 1), (["cd"], 1), (["ce", "cd", "cc", "cb"], 2),
                               (["ca", "cb", "cc", "cd", "ce"], 3), (["ca", "cb", "cc", "cd", "ce", "cf"], 2)):
            self.assertEqual(checked(self, shown_group, office, claims), number)

    def test_no_claims(self):
        for office in (plain_office(0, 0), plain_office(3, 0), plain_office(3, 3), plain_office(0, 3)):
            self.assertEqual(checked(self, shown_group, office, []), 0)

    def test_no_things(self):
        self.assertEqual(shown_group(plain_office(0, 3), ["cc", "ca"]), 2)

    def test_more_things_than_claims(self):
        self.assertEqual(shown_group(plain_office(8, 2), ["cb"]), 0)
        self.assertEqual(shown_group(plain_office(8, 2), ["ca", "cb"]), 0)
        self.assertEqual(shown_group(graph_office(["abcdef", "ab", "cd"]), ["ca", "cb", "cc"]), 0)

    def test_the_short_group_is_shown(self):
        for office in drawn_offices(60):
            group = short_group(office)
            if group is not None:
                self.assertGreaterEqual(shown_group(office, group), 1)

    def test_drawn_offices(self):
        for office in drawn_offices(60):
            labels = sorted(office.claims, reverse=True)
            for size in range(len(labels) + 1):
                for claims in combinations(labels, size):
                    number = checked(self, shown_group, office, list(claims))
                    self.assertEqual(number, max(0, len(claims) - len(fitting_some(office, claims))))
                    self.assertLessEqual(number, least_without(office, claims))

    def test_labels_that_are_no_claims(self):
        office = graph_office(["ab", "a"])
        self.check_index(office, ["zz"], 0)
        self.check_index(office, ["ca", "zz", "cb"], 1)
        self.check_index(office, ["ca", "cb", ""], 2)
        self.check_index(plain_office(0, 0), ["ca"], 0)

    def test_labels_of_things(self):
        office = graph_office(["ab", "a"])
        self.check_index(office, ["ta"], 0)
        self.check_index(office, ["cb", "tb", "ca"], 1)

    def test_labels_that_stand_twice(self):
        office = graph_office(["ab", "a", "b"])
        self.check_index(office, ["ca", "ca"], 1)
        self.check_index(office, ["ca", "cb", "cc", "ca"], 3)
        self.check_index(office, ["ca", "cb", "cb", "ca"], 2)

    def test_the_first_of_several_wrong_labels(self):
        office = graph_office(["ab", "a", "b"])
        self.check_index(office, ["ca", "cb", "ca", "zz"], 2)
        self.check_index(office, ["ca", "zz", "ca", "zz"], 1)
        self.check_index(office, ["cb", "ta", "cb", "ta"], 1)
        self.check_index(office, ["cb", "cb", "ta", "zz"], 1)
        self.check_index(office, ["zz", "zz"], 0)


if __name__ == "__main__":
    unittest.main()
