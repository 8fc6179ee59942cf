"""Point 20: the numbers of greatest matches, and shares in them."""

import unittest
from fractions import Fraction
from itertools import islice, permutations, product

from helpers import all_matches, checked, drawn_offices, graph_office, greatest_matches, plain_office, told_attributes
from lostdesk.errors import InvalidMatch, InvalidNumber, UnknownLabel
from lostdesk.shares import match_at, number_of, pair_share, served_share


def fraction(part, whole):
    """Return a fraction as a tuple in lowest terms."""
    told = Fraction(part, whole)
    return told.numerator, told.denominator


class NumbersTest(unittest.TestCase):
    def check_numbers(self, office, wanted):
        for number, pairs in enumerate(wanted):
            match = checked(self, match_at, office, number)
            self.assertEqual(list(match.items()), pairs)
            self.assertEqual(checked(self, number_of, office, match), number)
            self.assertEqual(number_of(office, dict(pairs[::-1])), number)

    def test_only_the_empty_match(self):
        for office in (plain_office(0, 0), plain_office(3, 0), plain_office(0, 3), graph_office(["", ""])):
            self.check_numbers(office, [[]])
            self.assertRaises(InvalidNumber, match_at, office, 1)

    def test_all_fit_all(self):
        wanted = [[("ca", "ta"), ("cb", "tb")], [("ca", "ta"), ("cc", "tb")], [("ca", "tb"), ("cb", "ta")],
                  [("ca", "tb"), ("cc", "ta")], [("cb", "ta"), ("cc", "tb")], [("cb", "tb"), ("cc", "ta")]]
        self.check_numbers(plain_office(2, 3), wanted)

    def test_drawn_offices(self):
        for office in drawn_offices(80) + drawn_offices(8, 5):
            wanted = greatest_matches(office)
            self.check_numbers(office, wanted)
            for number in (len(wanted), len(wanted) + 1, -1):
                self.assertRaises(InvalidNumber, match_at, office, number)

    def test_eight_by_eight(self):
        office = plain_office(8, 8)
        orders = permutations(["t" + letter for letter in "abcdefgh"])
        for number, order in enumerate(islice(orders, 0, None, 4001)):
            match = {"c" + letter: thing for letter, thing in zip("abcdefgh", order)}
            self.assertEqual(match_at(office, 4001 * number), match)
            self.assertEqual(number_of(office, match), 4001 * number)
        last = {"c" + letter: "t" + other for letter, other in zip("abcdefgh", "hgfedcba")}
        self.assertEqual(match_at(office, 40319), last)
        self.assertEqual(number_of(office, last), 40319)
        self.assertRaises(InvalidNumber, match_at, office, 40320)

    def test_fewer_things_than_claims(self):
        office = plain_office(5, 8)
        self.assertEqual(match_at(office, 6719), {"cd": "te", "ce": "td", "cf": "tc", "cg": "tb", "ch": "ta"})
        self.assertRaises(InvalidNumber, match_at, office, 6720)

    def test_numbers_out_of_range(self):
        for office, count in ((plain_office(2, 2), 2), (plain_office(0, 0), 1), (graph_office(["a"]), 1)):
            for number in (-1, -2, count, count + 1, 10 ** 20, True, False):
                with self.subTest(number=number):
                    self.assertEqual(len(told_attributes(self, InvalidNumber, match_at, office, number)), 0)


class NumberOfTest(unittest.TestCase):
    def check_invalid(self, office, match):
        with self.subTest(match=match):
            self.assertEqual(len(told_attributes(self, InvalidMatch, number_of, office, match)), 0)

    def test_in_another_order(self):
        office = plain_office(3, 3)
        match = {"cc": "tb", "ca": "tc", "cb": "ta"}
        self.assertEqual(checked(self, number_of, office, match), 4)
        self.assertEqual(list(match), ["cc", "ca", "cb"])

    def test_matches_that_are_not_greatest(self):
        for office in drawn_offices(60):
            greatest = greatest_matches(office)
            for pairs in all_matches(office):
                if pairs not in greatest:
                    self.check_invalid(office, dict(pairs))

    def test_a_thing_that_stands_twice(self):
        self.check_invalid(plain_office(2, 2), {"ca": "ta", "cb": "ta"})
        self.check_invalid(graph_office(["ab", "b"]), {"ca": "tb", "cb": "tb"})

    def test_pairs_that_do_not_fit(self):
        self.check_invalid(graph_office(["a", "b"]), {"ca": "tb", "cb": "ta"})
        self.check_invalid(graph_office(["a", ""]), {"cb": "ta"})
        self.check_invalid(graph_office(["a", ""]), {"ca": "ta", "cb": "tb"})

    def test_unknown_labels(self):
        office = plain_office(2, 2)
        for match in ({"ca": "ta", "zz": "tb"}, {"ca": "ta", "cb": "zz"}, {"ca": "ta", "cb": "tb", "zz": "tc"},
                      {"ca": "ta", "cb": "tb", "zz": "yy"}, {"zz": "yy"}, {"ta": "ca", "tb": "cb"},
                      {"ca": "cb", "cb": "ca"}, {"ca": "ta", "cb": "tb", "ta": "ca"}):
            self.check_invalid(office, match)
        self.check_invalid(plain_office(0, 0), {"ca": "ta"})
        self.check_invalid(plain_office(1, 0), {"ca": "ta"})

    def test_no_pairs(self):
        self.check_invalid(plain_office(1, 1), {})
        self.assertEqual(number_of(plain_office(0, 0), {}), 0)


class SharesTest(unittest.TestCase):
    def test_ordinary_shares(self):
        office = graph_office(["ab", "ab", "abc", ""])
        # Three of them are served: Ca and Cb have ta and tb, and Cc has tc.
        wanted = {("ca", "ta"): (1, 2), ("ca", "tb"): (1, 2), ("cc", "tc"): (1, 1), ("cc", "ta"): (0, 1),
                  ("cd", "ta"): (0, 1), ("ca", "th"): (0, 1)}
        self.assertEqual({pair: checked(self, pair_share, office, *pair) for pair in wanted}, wanted)
        labels = {"ca": (1, 1), "cd": (0, 1), "ta": (1, 1), "td": (0, 1)}
        self.assertEqual({label: checked(self, served_share, office, label) for label in labels}, labels)

    def test_no_pairs(self):
        self.assertEqual(served_share(plain_office(0, 2), "ca"), (0, 1))
        self.assertEqual(served_share(plain_office(2, 0), "ta"), (0, 1))
        self.assertEqual(pair_share(graph_office([""]), "ca", "ta"), (0, 1))

    def test_all_fit_all(self):
        self.assertEqual(pair_share(plain_office(6, 4), "ca", "ta"), (1, 6))
        self.assertEqual(served_share(plain_office(6, 4), "ta"), (2, 3))
        self.assertEqual(served_share(plain_office(6, 4), "ca"), (1, 1))

    def test_eight_by_eight(self):
        office = plain_office(8, 8)
        self.assertEqual([pair_share(office, "ca", "ta"), pair_share(office, "cd", "th")], [(1, 8), (1, 8)])
        self.assertEqual([served_share(office, "ca"), served_share(office, "th")], [(1, 1), (1, 1)])

    def test_drawn_offices(self):
        for office in drawn_offices(80) + drawn_offices(8, 5):
            found = greatest_matches(office)
            for pair in product(office.claims, office.things):
                part = sum(pair in pairs for pairs in found)
                self.assertEqual(checked(self, pair_share, office, *pair), fraction(part, len(found)))
            for label in list(office.claims) + list(office.things):
                part = sum(any(label in pair for pair in pairs) for pairs in found)
                self.assertEqual(checked(self, served_share, office, label), fraction(part, len(found)))

    def test_unknown_labels(self):
        office = graph_office(["ab", ""])
        for claim, thing in (("zz", "ta"), ("ca", "zz"), ("zz", "yy"), ("ta", "ca"), ("ca", "cb"), ("ta", "tb"),
                             ("cb", "zz"), ("", "")):
            with self.subTest(claim=claim, thing=thing):
                self.assertEqual(len(told_attributes(self, UnknownLabel, pair_share, office, claim, thing)), 0)
        for label in ("zz", "", "c"):
            self.assertEqual(len(told_attributes(self, UnknownLabel, served_share, office, label)), 0)


if __name__ == "__main__":
    unittest.main()
