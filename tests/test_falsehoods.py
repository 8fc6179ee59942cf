"""Point 19: which claims may be false."""

import unittest
from itertools import combinations
from random import Random

from helpers import all_matches, checked, drawn_offices, graph_office, plain_office
from lostdesk.falsehoods import cheapest_false, doubtful, false_sets


def wanted_sets(office):
    """Return what false_sets is to return, by all sets of claims and all matches."""
    labels = sorted(office.claims)
    served = [set(dict(pairs)) for pairs in all_matches(office)]
    found = []
    for size in range(len(labels) + 1):
        for group in combinations(labels, size):
            least = not any(set(other) <= set(group) for other in found)
            if least and set(labels) - set(group) in served:
                found.append(group)
    return sorted(found)


def drawn_graph(random, most):
    """Return an office with up to so many claims of different worths, which fit few things."""
    count = random.randint(0, most)
    rows = ["".join(sorted(random.sample("abcd", random.choice([0, 1, 1, 2, 2, 3])))) for _ in range(count)]
    return graph_office(rows, [random.choice([1, 2, 3, 5]) for _ in rows])


class FalseSetsTest(unittest.TestCase):
    def check_sets(self, office, sets):
        found = checked(self, false_sets, office)
        self.assertEqual(found, sets)
        self.assertTrue(all(isinstance(labels, tuple) for labels in found))

    def test_all_claims_can_be_matched(self):
        for office in (plain_office(0, 0), plain_office(3, 0), plain_office(3, 3), plain_office(8, 8),
                       graph_office(["ab", "a", "bc"])):
            self.check_sets(office, [()])

    def test_no_claim_can_be_matched(self):
        self.check_sets(plain_office(0, 3), [("ca", "cb", "cc")])
        self.check_sets(graph_office(["", ""]), [("ca", "cb")])

    def test_one_too_many(self):
        self.check_sets(plain_office(2, 3), [("ca",), ("cb",), ("cc",)])
        self.check_sets(graph_office(["a", "b", "a"]), [("ca",), ("cc",)])

    def test_claims_that_nothing_fits_are_in_all(self):
        self.check_sets(graph_office(["b", "", "b", "c"]), [("ca", "cb"), ("cb", "cc")])

    def test_several_groups(self):
        self.check_sets(graph_office(["a", "b", "a", "b", "c"]),
                        [("ca", "cb"), ("ca", "cd"), ("cb", "cc"), ("cc", "cd")])

    def test_many_claims_for_few_things(self):
        self.check_sets(plain_office(4, 8), list(combinations(["c" + letter for letter in "abcdefgh"], 4)))
        self.check_sets(plain_office(1, 8), list(combinations(["c" + letter for letter in "abcdefgh"], 7)))

    def test_drawn_offices(self):
        random = Random(4)
        for office in drawn_offices(100) + [drawn_graph(random, 6) for _ in range(80)]:
            self.check_sets(office, wanted_sets(office))

    def test_a_least_set_is_never_larger_than_another(self):
        random = Random(12)
        for office in drawn_offices(60) + [drawn_graph(random, 6) for _ in range(60)]:
            self.assertEqual(len({len(labels) for labels in false_sets(office)}), 1)


class CheapestFalseTest(unittest.TestCase):
    def test_none_is_false(self):
        for office in (plain_office(0, 0), plain_office(3, 3)):
            self.assertEqual(checked(self, cheapest_false, office), (0, ()))

    def test_all_are_false(self):
        self.assertEqual(cheapest_false(graph_office(["", ""], [5, 7])), (12, ("ca", "cb")))

    def test_the_least_worth(self):
        self.assertEqual(cheapest_false(graph_office(["a", "a", "a"], [5, 7, 3])), (8, ("ca", "cc")))
        self.assertEqual(cheapest_false(graph_office(["a", "b", "a", "b"], [2, 1, 1, 9])), (2, ("cb", "cc")))

    def test_a_cheap_claim_that_helps_nobody_is_kept(self):
        self.assertEqual(cheapest_false(graph_office(["a", "b", "a"], [5, 1, 4])), (4, ("cc",)))

    def test_the_least_of_several(self):
        self.assertEqual(cheapest_false(graph_office(["a", "a", "a"], [2, 2, 2])), (4, ("ca", "cb")))
        self.assertEqual(cheapest_false(graph_office(["a", "b", "a", "b"], [3, 2, 1, 2])), (3, ("cb", "cc")))
        self.assertEqual(cheapest_false(graph_office(["ab", "ab", "ab", "ab"], [4, 1, 3, 2])), (3, ("cb", "cd")))

    def test_great_worths(self):
        worths = [10 ** 9, 10 ** 9 - 1, 10 ** 9, 10 ** 9 - 2]
        self.assertEqual(cheapest_false(graph_office(["a"] * 4, worths)), (3 * 10 ** 9 - 3, ("ca", "cb", "cd")))

    def test_drawn_offices(self):
        random = Random(6)
        for office in drawn_offices(80) + [drawn_graph(random, 6) for _ in range(80)]:
            worths = [sum(office.claims[label].worth for label in labels) for labels in wanted_sets(office)]
            cheapest = [labels for labels, worth in zip(wanted_sets(office), worths) if worth == min(worths)]
            self.assertEqual(checked(self, cheapest_false, office), (min(worths), cheapest[0]))


class DoubtfulTest(unittest.TestCase):
    def test_none(self):
        for office in (plain_office(0, 0), plain_office(3, 3), plain_office(0, 3), graph_office(["a", ""])):
            self.assertEqual(checked(self, doubtful, office), [])

    def test_all(self):
        self.assertEqual(doubtful(plain_office(2, 3)), ["ca", "cb", "cc"])

    def test_some(self):
        self.assertEqual(checked(self, doubtful, graph_office(["b", "", "b", "c"])), ["ca", "cc"])

    def test_drawn_offices(self):
        random = Random(8)
        for office in drawn_offices(80) + [drawn_graph(random, 6) for _ in range(80)]:
            sets = wanted_sets(office)
            parts = {claim: sum(claim in labels for labels in sets) for claim in sorted(office.claims)}
            self.assertEqual(checked(self, doubtful, office),
                             [claim for claim, part in parts.items() if 0 < part < len(sets)])


if __name__ == "__main__":
    unittest.main()
