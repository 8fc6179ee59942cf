"""Points 8 and 9: matches, and what is in all, some or none of the greatest ones."""

import unittest
from itertools import product

from helpers import all_matches, drawn_offices, graph_office, greatest_matches, plain_office
from lostdesk.errors import InvalidNumber, TooMany, UnknownLabel
from lostdesk.matches import first_match, judge, match_count, matches, most_pairs, served, sure_pairs

# Offices with just so many greatest matches.
FIVE_THOUSAND = ["abcdfgh", "abcdefgh", "cdegh", "bcdfg", "abdfh", "bcdefgh", "acdef"]
FIVE_THOUSAND_AND_ONE = ["bdefgh", "abdefg", "abcdegh", "acdefh", "acefgh", "cdefgh", "cdefg"]


def word_for(part, whole, words):
    """Return the word for all, some or none."""
    return words[2] if part == 0 else words[0] if part == whole else words[1]


class SmallOfficesTest(unittest.TestCase):
    def check_only_the_empty_match(self, office):
        self.assertEqual([match_count(office, size) for size in range(4)], [1, 0, 0, 0])
        self.assertEqual(most_pairs(office), 0)
        self.assertEqual(first_match(office), {})
        self.assertEqual(list(matches(office)), [{}])
        self.assertEqual(sure_pairs(office), {})
        for label in list(office.things) + list(office.claims):
            self.assertEqual(served(office, label), "never")
        for claim, thing in product(office.claims, office.things):
            self.assertEqual(judge(office, claim, thing), "never")

    def test_no_things_and_no_claims(self):
        self.check_only_the_empty_match(plain_office(0, 0))

    def test_no_things(self):
        self.check_only_the_empty_match(plain_office(0, 3))

    def test_no_claims(self):
        self.check_only_the_empty_match(plain_office(3, 0))

    def test_nothing_fits(self):
        self.check_only_the_empty_match(graph_office(["", "", ""]))

    def test_one_pair(self):
        office = plain_office(1, 1)
        self.assertEqual([match_count(office, size) for size in range(3)], [1, 1, 0])
        self.assertEqual(list(matches(office)), [{"ca": "ta"}])
        self.assertEqual(judge(office, "ca", "ta"), "surely")
        self.assertEqual(sure_pairs(office), {"ca": "ta"})
        self.assertEqual([served(office, "ca"), served(office, "ta")], ["always", "always"])

    def test_all_fit_all(self):
        office = plain_office(2, 3)
        self.assertEqual([match_count(office, size) for size in range(4)], [1, 6, 6, 0])
        wanted = [[("ca", "ta"), ("cb", "tb")], [("ca", "ta"), ("cc", "tb")], [("ca", "tb"), ("cb", "ta")],
                  [("ca", "tb"), ("cc", "ta")], [("cb", "ta"), ("cc", "tb")], [("cb", "tb"), ("cc", "ta")]]
        self.assertEqual([list(match.items()) for match in matches(office)], wanted)
        self.assertEqual([served(office, label) for label in ("ca", "cc", "ta", "tb")],
                         ["sometimes", "sometimes", "always", "always"])
        self.assertEqual(sure_pairs(office), {})

    def test_the_first_match_is_not_what_is_taken_greedily(self):
        office = graph_office(["ab", "a", "bc"])
        self.assertEqual(first_match(office), {"ca": "tb", "cb": "ta", "cc": "tc"})
        self.assertEqual(sure_pairs(office), {"ca": "tb", "cb": "ta", "cc": "tc"})

    def test_some_sure_pairs(self):
        office = graph_office(["ab", "ab", "abc", "", "e"])
        self.assertEqual(sure_pairs(office), {"cc": "tc", "ce": "te"})
        self.assertEqual(list(sure_pairs(office)), ["cc", "ce"])
        self.assertEqual(judge(office, "cc", "tc"), "surely")
        self.assertEqual(judge(office, "ca", "ta"), "perhaps")
        self.assertEqual(judge(office, "cc", "ta"), "never")
        self.assertEqual(judge(office, "ca", "te"), "never")
        self.assertEqual([served(office, label) for label in ("ca", "cd", "ta", "td")],
                         ["always", "never", "always", "never"])

    def test_a_claim_without_things_does_not_hinder_those_behind_it(self):
        office = graph_office(["", "b", "", "b"])
        self.assertEqual([list(match.items()) for match in matches(office)], [[("cb", "tb")], [("cd", "tb")]])


class DrawnOfficesTest(unittest.TestCase):
    def setUp(self):
        self.offices = drawn_offices(80) + drawn_offices(8, 5)

    def test_counts(self):
        for office in self.offices:
            sizes = [len(pairs) for pairs in all_matches(office)]
            self.assertEqual(most_pairs(office), max(sizes))
            for size in range(8):
                self.assertEqual(match_count(office, size), sizes.count(size))

    def test_greatest_matches_in_order(self):
        for office in self.offices:
            wanted = greatest_matches(office)
            found = list(matches(office))
            self.assertEqual([list(match.items()) for match in found], wanted)
            self.assertTrue(all(isinstance(match, dict) for match in found))
            self.assertEqual(list(first_match(office).items()), wanted[0])

    def test_pairs_in_all_some_or_none(self):
        for office in self.offices:
            greatest = greatest_matches(office)
            sure = []
            for claim, thing in product(office.claims, office.things):
                part = sum((claim, thing) in pairs for pairs in greatest)
                word = word_for(part, len(greatest), ("surely", "perhaps", "never"))
                self.assertEqual(judge(office, claim, thing), word)
                sure += [(claim, thing)] if word == "surely" else []
            self.assertEqual(list(sure_pairs(office).items()), sure)

    def test_labels_in_all_some_or_none(self):
        for office in self.offices:
            greatest = greatest_matches(office)
            for label in list(office.claims) + list(office.things):
                part = sum(any(label in pair for pair in pairs) for pairs in greatest)
                self.assertEqual(served(office, label), word_for(part, len(greatest), ("always", "sometimes", "never")))


class ManyMatchesTest(unittest.TestCase):
    def test_eight_by_eight(self):
        office = plain_office(8, 8)
        self.assertEqual([match_count(office, size) for size in range(10)],
                         [1, 64, 1568, 18816, 117600, 376320, 564480, 322560, 40320, 0])
        self.assertEqual(most_pairs(office), 8)
        self.assertEqual(first_match(office), {"c" + letter: "t" + letter for letter in "abcdefgh"})
        self.assertEqual(judge(office, "ca", "th"), "perhaps")
        self.assertEqual(sure_pairs(office), {})
        self.assertEqual([served(office, "ch"), served(office, "ta")], ["always", "always"])
        with self.assertRaises(TooMany):
            list(matches(office))

    def test_eight_by_seven(self):
        self.assertEqual(match_count(plain_office(8, 7), 7), 40320)
        self.assertEqual(served(plain_office(8, 7), "ta"), "sometimes")
        self.assertEqual(served(plain_office(7, 8), "ca"), "sometimes")

    def test_five_thousand(self):
        office = graph_office(FIVE_THOUSAND)
        self.assertEqual(match_count(office, 7), 5000)
        found = [list(match.items()) for match in matches(office)]
        self.assertEqual(len(found), 5000)
        self.assertTrue(all(one < other for one, other in zip(found, found[1:])))
        self.assertEqual(found[0], list(first_match(office).items()))

    def test_one_more(self):
        office = graph_office(FIVE_THOUSAND_AND_ONE)
        self.assertEqual(match_count(office, 7), 5001)
        with self.assertRaises(TooMany):
            list(matches(office))
        self.assertEqual(len(first_match(office)), 7)
        self.assertEqual(judge(office, "ca", "tb"), "perhaps")
        self.assertEqual(served(office, "ca"), "always")
        self.assertEqual(sure_pairs(office), {})

    def test_many_matches_that_are_not_greatest(self):
        office = graph_office(["abcdefgh"[:count] for count in range(1, 9)])
        self.assertEqual([match_count(office, size) for size in (4, 8)], [6951, 1])
        self.assertEqual(list(matches(office)), [{"c" + letter: "t" + letter for letter in "abcdefgh"}])

    def test_errors_come_when_the_iteration_begins(self):
        iterator = matches(plain_office(8, 8))
        with self.assertRaises(TooMany):
            next(iterator)

    def test_a_generator(self):
        iterator = matches(plain_office(2, 2))
        self.assertIs(iter(iterator), iterator)
        self.assertEqual(next(iterator), {"ca": "ta", "cb": "tb"})
        self.assertEqual(next(iterator), {"ca": "tb", "cb": "ta"})
        with self.assertRaises(StopIteration):
            next(iterator)


class WrongInputsTest(unittest.TestCase):
    def test_sizes_below_0(self):
        for office in (plain_office(2, 2), plain_office(0, 0)):
            for size in (-1, -2, -10 ** 9):
                with self.assertRaises(InvalidNumber):
                    match_count(office, size)

    def test_booleans_are_no_sizes(self):
        for office in (plain_office(0, 0), plain_office(1, 1), plain_office(2, 2)):
            for size in (True, False):
                with self.assertRaises(InvalidNumber):
                    match_count(office, size)

    def test_sizes_above_the_most_pairs(self):
        office = plain_office(3, 2)
        self.assertEqual([match_count(office, size) for size in (2, 3, 4, 8, 9, 100, 10 ** 20)], [6, 0, 0, 0, 0, 0, 0])

    def test_unknown_pairs(self):
        office = graph_office(["ab", ""])
        for claim, thing in (("zz", "ta"), ("ca", "zz"), ("zz", "zz"), ("ta", "ca"), ("ta", "ta"), ("ca", "ca"),
                             ("cb", "zz"), ("", "")):
            with self.subTest(claim=claim, thing=thing), self.assertRaises(UnknownLabel):
                judge(office, claim, thing)

    def test_unknown_labels(self):
        for label in ("zz", "", "c", "Ca"):
            with self.subTest(label=label), self.assertRaises(UnknownLabel):
                served(plain_office(2, 2), label)
        with self.assertRaises(UnknownLabel):
            served(plain_office(0, 0), "ca")


class NothingChangesTest(unittest.TestCase):
    def test_results_are_new_and_equal(self):
        office = plain_office(2, 2)
        for call in (first_match, lambda of: list(matches(of)), lambda of: sure_pairs(of.without("cb").without("tb"))):
            result = call(office)
            self.assertEqual(result, call(office))
            result.clear()
            self.assertNotEqual(result, call(office))
        self.assertEqual(office, plain_office(2, 2))

    def test_a_match_that_was_yielded_can_be_changed(self):
        office = plain_office(2, 3)
        wanted = list(matches(office))
        found = []
        for match in matches(office):
            found.append(dict(match))
            match.clear()
        self.assertEqual(found, wanted)


if __name__ == "__main__":
    unittest.main()
