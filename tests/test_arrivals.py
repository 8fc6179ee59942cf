"""Point 22: things that come one by one, and must be given at once."""

import unittest
from itertools import permutations

from helpers import checked, drawn_offices, graph_office, greatest_matches, plain_fits, plain_office, told_attributes
from lostdesk.arrivals import fewest_at_once, good_order, handed_at_once, worst_arrival
from lostdesk.errors import InvalidOrder
from lostdesk.matches import most_pairs

FUNCTIONS = (fewest_at_once, worst_arrival, good_order)
# Rows of an office of eight claims and eight things by which the orders end with many numbers of pairs.
ROWS = ["abcdefgh", "ah", "bg", "cf", "de", "a", "h", "bc"]


def plain_handed(fitting, order):
    """Return the match if each thing of an order is given to the first claim of its list that has none."""
    match = {}
    for thing in order:
        for claim in fitting[thing]:
            if claim not in match:
                match[claim] = thing
                break
    return match


def plain_fitting(office):
    """Return a dict from the things of an office to the claims that they fit, in label order."""
    return {thing: [claim for claim in sorted(office.claims) if plain_fits(office, claim, thing)]
            for thing in office.things}


def small_office(rows):
    """Return an office as graph_office does, with no more things than the rows tell of."""
    office = graph_office(rows)
    for letter in "abcdefgh":
        if letter not in "".join(rows):
            office = office.without("t" + letter)
    return office


class HandedAtOnceTest(unittest.TestCase):
    def check_handed(self, office, order):
        match = checked(self, handed_at_once, office, order)
        wanted = plain_handed(plain_fitting(office), order)
        self.assertEqual(list(match.items()), sorted(wanted.items()))

    def check_index(self, office, order, index):
        with self.subTest(order=order):
            self.assertEqual(told_attributes(self, InvalidOrder, handed_at_once, office, order), [index])

    def test_all_orders_of_some_things(self):
        for office in drawn_offices(60):
            for count in range(len(office.things) + 1):
                for order in permutations(office.things, count):
                    self.check_handed(office, order)

    def test_the_first_claim_in_label_order(self):
        office = plain_office(3, 4)
        self.assertEqual(handed_at_once(office, ("tc", "ta")), {"ca": "tc", "cb": "ta"})
        office = small_office(["b", "ab", "a"])
        self.assertEqual(list(handed_at_once(office, ("ta", "tb")).items()), [("ca", "tb"), ("cb", "ta")])
        self.assertEqual(list(handed_at_once(office, ("tb", "ta")).items()), [("ca", "tb"), ("cb", "ta")])

    def test_a_thing_for_nobody(self):
        office = small_office(["a", "b"])
        self.assertEqual(handed_at_once(office.without("ca"), ("ta", "tb")), {"cb": "tb"})
        self.assertEqual(handed_at_once(plain_office(3, 2), ("tb", "tc", "ta")), {"ca": "tb", "cb": "tc"})

    def test_an_order_without_things(self):
        for office in drawn_offices(5) + [plain_office(0, 0), plain_office(0, 3), plain_office(3, 0)]:
            self.assertEqual(checked(self, handed_at_once, office, ()), {})

    def test_no_claims(self):
        self.assertEqual(checked(self, handed_at_once, plain_office(3, 0), ("tb", "ta", "tc")), {})

    def test_labels_that_are_no_thing(self):
        office = plain_office(3, 3)
        for wrong in ("zz", "", "ca", "cc", "td"):
            self.check_index(office, (wrong,), 0)
            self.check_index(office, ("ta", wrong), 1)
            self.check_index(office, ("tc", "tb", wrong, "ta"), 2)
            self.check_index(office, ("tc", "tb", "ta", wrong), 3)

    def test_labels_that_stand_twice(self):
        office = plain_office(3, 3)
        self.check_index(office, ("ta", "ta"), 1)
        self.check_index(office, ("ta", "tb", "ta"), 2)
        self.check_index(office, ("ta", "tb", "tc", "ta"), 3)

    def test_the_first_of_several(self):
        office = plain_office(3, 3)
        self.check_index(office, ("ta", "ta", "zz"), 1)
        self.check_index(office, ("ta", "zz", "ta"), 1)
        self.check_index(office, ("zz", "zz", "ta", "ta"), 0)
        self.check_index(office, ("ta", "tb", "ca", "tb"), 2)
        self.check_index(plain_office(0, 0), ("ta",), 0)


class OrdersTest(unittest.TestCase):
    def check_orders(self, office):
        """Compare with all orders of all things."""
        fitting = plain_fitting(office)
        sizes = {order: len(plain_handed(fitting, order)) for order in permutations(sorted(office.things))}
        fewest, most = min(sizes.values()), max(sizes.values())
        self.assertEqual(most, most_pairs(office))
        self.assertEqual(checked(self, fewest_at_once, office), fewest)
        self.assertEqual(checked(self, worst_arrival, office),
                         min(order for order, size in sizes.items() if size == fewest))
        self.assertEqual(checked(self, good_order, office),
                         min(order for order, size in sizes.items() if size == most))
        return fewest, most

    def test_drawn_offices(self):
        told = [self.check_orders(office) for office in drawn_offices(120) + drawn_offices(25, 6)]
        self.assertGreater(len([1 for fewest, most in told if fewest < most]), 5)

    def test_good_order_has_a_greatest_match(self):
        for office in drawn_offices(60, 5):
            match = handed_at_once(office, good_order(office))
            self.assertIn(list(match.items()), greatest_matches(office))

    def test_several_worst_and_several_good_orders(self):
        office = small_office(["abcd", "a", "b"])
        self.assertEqual(self.check_orders(office), (2, 3))
        self.assertEqual((worst_arrival(office), good_order(office)),
                         (("ta", "tb", "tc", "td"), ("tc", "ta", "tb", "td")))

    def test_no_things_and_no_claims(self):
        for office in (plain_office(0, 0), plain_office(0, 3)):
            self.assertEqual([checked(self, function, office) for function in FUNCTIONS], [0, (), ()])
        told = [checked(self, function, plain_office(3, 0)) for function in FUNCTIONS]
        self.assertEqual(told, [0, ("ta", "tb", "tc"), ("ta", "tb", "tc")])

    def test_eight_by_eight_all_fitting(self):
        labels = tuple("t" + letter for letter in "abcdefgh")
        told = [checked(self, function, plain_office(8, 8)) for function in FUNCTIONS]
        self.assertEqual(told, [8, labels, labels])

    def test_eight_by_eight(self):
        self.assertEqual(self.check_orders(graph_office(ROWS)), (5, 7))
        self.check_orders(graph_office(["abcdefgh"] * 3 + ["ab", "cd", "ef", "gh", "a"]))


if __name__ == "__main__":
    unittest.main()
