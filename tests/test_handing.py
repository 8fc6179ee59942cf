"""Points 13 and 14: what is lost by handing out, and who gets what in turn."""

import unittest
from itertools import permutations, product

from helpers import (all_matches, checked, drawn_offices, graph_office, greatest_matches, plain_fits, plain_office,
                     plain_score, told_attributes)
from lostdesk.catalogs import Catalog
from lostdesk.errors import InvalidOrder, NotFitting, TooMany, UnknownLabel
from lostdesk.handing import best_order, handed, in_turn, lossless, pair_loss, score_loss, worst_order
from lostdesk.notes import Note
from lostdesk.offices import Claim, Office, Thing

WITH_A_PAIR = (handed, score_loss, pair_loss)
CATALOG = Catalog((("hue", ("blue", "red")), ("size", ("big", "small"))))
NOTE = Note(CATALOG, {})
RED = Note(CATALOG, {"hue": ("red",), "size": ("big",)})
BLUE = Note(CATALOG, {"hue": ("blue",)})
BLUE_SMALL = Note(CATALOG, {"hue": ("blue",), "size": ("small",)})


def greatest(office, found):
    """Return the greatest score and the most pairs of some matches."""
    scores = [sum(plain_score(office, *pair) for pair in pairs) for pairs in found]
    return max(scores), max(len(pairs) for pairs in found)


def wanted_losses(office, claim, thing):
    """Return what is lost by a pair that is handed first: all matches against those that have the pair."""
    found = all_matches(office)
    best, most = greatest(office, found)
    best_with, most_with = greatest(office, [pairs for pairs in found if (claim, thing) in pairs])
    return best - best_with, most - most_with


def turn_of(office, order):
    """Return the match in turn, as the list of its pairs in the order of the claims."""
    got = {}
    for claim in order:
        left = [thing for thing in office.things if plain_fits(office, claim, thing) and thing not in got.values()]
        if left:
            got[claim] = min(left)
    return sorted(got.items())


class HandedTest(unittest.TestCase):
    def test_both_are_gone(self):
        office = graph_office(["ab", "b"])
        rest = checked(self, handed, office, "ca", "tb")
        self.assertEqual(rest, office.without("ca").without("tb"))
        self.assertEqual((list(rest.claims), "tb" in rest, "ta" in rest), (["cb"], False, True))

    def test_the_last_ones(self):
        self.assertEqual(handed(plain_office(1, 1), "ca", "ta"), plain_office(0, 0))

    def test_pairs_that_do_not_fit(self):
        office = graph_office(["ab", "b", ""])
        for call, (claim, thing) in product(WITH_A_PAIR, [("ca", "tc"), ("cb", "ta"), ("cc", "ta")]):
            with self.subTest(call=call, claim=claim, thing=thing):
                self.assertEqual(len(told_attributes(self, NotFitting, call, office, claim, thing)), 0)

    def test_unknown_labels(self):
        office = graph_office(["ab", ""])
        pairs = [("zz", "ta"), ("ca", "zz"), ("zz", "yy"), ("ta", "ca"), ("ta", "ta"), ("ca", "ca"), ("cb", "zz"),
                 ("ta", "tb"), ("ca", "cb"), ("", "")]
        for call, (claim, thing) in product(WITH_A_PAIR, pairs):
            with self.subTest(call=call, claim=claim, thing=thing), self.assertRaises(UnknownLabel):
                checked(self, call, office, claim, thing)


class LossesTest(unittest.TestCase):
    def test_a_loss_of_pairs(self):
        office = graph_office(["ab", "a"])
        self.assertEqual([pair_loss(office, "ca", thing) for thing in ("ta", "tb")], [1, 0])
        self.assertEqual([score_loss(office, "ca", thing) for thing in ("ta", "tb")], [1, 0])
        self.assertEqual(lossless(office), [("ca", "tb"), ("cb", "ta")])

    def test_a_loss_of_score_alone(self):
        office = graph_office(["a", "a"], [5, 3])
        self.assertEqual((score_loss(office, "cb", "ta"), pair_loss(office, "cb", "ta")), (2, 0))
        self.assertEqual(lossless(office), [("ca", "ta")])

    def test_a_loss_of_pairs_alone(self):
        # Ann alone with the cap has as much as both with the things the other way round.
        things = {"cap": Thing(RED, 3), "hat": Thing(BLUE, 3)}
        office = Office(CATALOG, things, {"ann": Claim(RED, 1, 1, 10), "bob": Claim(RED, 1, 0, 5)})
        self.assertEqual((score_loss(office, "ann", "cap"), pair_loss(office, "ann", "cap")), (0, 1))
        self.assertEqual(lossless(office), [("ann", "hat"), ("bob", "cap")])

    def test_pairs_of_score_0(self):
        things = {"bag": Thing(BLUE_SMALL, 3), "cap": Thing(RED, 3)}
        office = Office(CATALOG, things, {"ann": Claim(RED, 1, 2, 7), "bob": Claim(RED, 1, 1, 1)})
        self.assertEqual((score_loss(office, "ann", "bag"), pair_loss(office, "ann", "bag")), (12, 0))
        alone = office.without("cap")
        self.assertEqual((score_loss(alone, "ann", "bag"), pair_loss(alone, "ann", "bag")), (0, 0))
        self.assertEqual(lossless(alone), [("ann", "bag")])

    def test_no_pairs(self):
        for office in (plain_office(0, 0), plain_office(3, 0), plain_office(0, 3), graph_office(["", ""])):
            self.assertEqual(checked(self, lossless, office), [])

    def test_all_fit_all(self):
        wanted = [("c" + one, "t" + other) for one in "abc" for other in "abcde"]
        self.assertEqual(checked(self, lossless, plain_office(5, 3)), wanted)
        office = plain_office(8, 8)
        self.assertEqual(len(lossless(office)), 64)
        self.assertEqual([score_loss(office, "ch", "ta"), pair_loss(office, "ca", "th")], [0, 0])

    def test_great_worths(self):
        office = graph_office(["a", "ab", "b"], [10 ** 9, 10 ** 9 - 1, 10 ** 9 - 2])
        self.assertEqual(score_loss(office, "cb", "ta"), 10 ** 9 - (10 ** 9 - 2))
        self.assertEqual(score_loss(office, "cb", "tb"), 0)

    def test_drawn_offices(self):
        for office in drawn_offices(60) + drawn_offices(6, 5):
            without = []
            for claim, thing in product(sorted(office.claims), sorted(office.things)):
                if plain_fits(office, claim, thing):
                    losses = wanted_losses(office, claim, thing)
                    self.assertEqual(checked(self, score_loss, office, claim, thing), losses[0])
                    self.assertEqual(checked(self, pair_loss, office, claim, thing), losses[1])
                    self.assertEqual(handed(office, claim, thing), office.without(claim).without(thing))
                    without += [(claim, thing)] if losses == (0, 0) else []
                else:
                    for call in WITH_A_PAIR:
                        self.assertRaises(NotFitting, call, office, claim, thing)
            self.assertEqual(checked(self, lossless, office), without)


class InTurnTest(unittest.TestCase):
    def check_index(self, office, order, index):
        with self.subTest(order=order):
            self.assertEqual(told_attributes(self, InvalidOrder, in_turn, office, order), [index])

    def test_each_takes_the_least(self):
        office = graph_office(["ab", "a", "bc"])
        self.assertEqual(in_turn(office, ["ca", "cb", "cc"]), {"ca": "ta", "cc": "tb"})
        self.assertEqual(in_turn(office, ["cb", "ca", "cc"]), {"ca": "tb", "cb": "ta", "cc": "tc"})
        self.assertEqual(in_turn(office, ["cc", "cb", "ca"]), {"cb": "ta", "cc": "tb"})

    def test_in_the_order_of_the_claims(self):
        self.assertEqual(list(in_turn(plain_office(3, 3), ["cc", "ca", "cb"]).items()),
                         [("ca", "tb"), ("cb", "tc"), ("cc", "ta")])

    def test_nothing_to_take(self):
        self.assertEqual(in_turn(plain_office(0, 0), []), {})
        self.assertEqual(in_turn(plain_office(4, 0), []), {})
        self.assertEqual(in_turn(plain_office(0, 2), ["cb", "ca"]), {})
        self.assertEqual(in_turn(graph_office(["", "b"]), ["ca", "cb"]), {"cb": "tb"})

    def test_eight_claims(self):
        labels = ["c" + letter for letter in "hgfedcba"]
        things = ["t" + letter for letter in "abcdefgh"]
        self.assertEqual(in_turn(plain_office(8, 8), labels), dict(zip(labels, things)))

    def test_drawn_offices(self):
        for office in drawn_offices(60):
            for order in permutations(office.claims):
                match = checked(self, in_turn, office, list(order))
                self.assertEqual(list(match.items()), turn_of(office, order))

    def test_labels_that_are_no_claims(self):
        office = graph_office(["ab", "a"])
        self.check_index(office, ["zz", "ca", "cb"], 0)
        self.check_index(office, ["ca", "ta"], 1)
        self.check_index(office, ["ca", "cb", "cc"], 2)
        self.check_index(plain_office(2, 0), ["ta"], 0)

    def test_labels_that_are_repeated(self):
        office = graph_office(["ab", "a"])
        self.check_index(office, ["ca", "ca"], 1)
        self.check_index(office, ["ca", "cb", "ca"], 2)

    def test_labels_that_are_missing(self):
        office = graph_office(["ab", "a", "c"])
        self.check_index(office, [], 0)
        self.check_index(office, ["cb"], 1)
        self.check_index(office, ["cc", "ca"], 2)

    def test_several_of_these(self):
        office = graph_office(["ab", "a", "c"])
        self.check_index(office, ["ca", "ca", "zz"], 1)
        self.check_index(office, ["ca", "zz", "ca"], 1)
        self.check_index(office, ["zz", "zz"], 0)
        self.check_index(office, ["cc", "cb", "cb"], 2)
        self.check_index(office, ["cc", "cc"], 1)


class OrdersTest(unittest.TestCase):
    def test_no_claims(self):
        for office in (plain_office(0, 0), plain_office(5, 0)):
            self.assertEqual(checked(self, worst_order, office), (0, []))
            self.assertEqual(checked(self, best_order, office), (0, []))

    def test_no_things(self):
        self.assertEqual(worst_order(plain_office(0, 3)), (0, ["ca", "cb", "cc"]))
        self.assertEqual(best_order(plain_office(0, 3)), (0, ["ca", "cb", "cc"]))

    def test_orders_that_differ(self):
        office = graph_office(["ab", "a", "bc"])
        self.assertEqual(worst_order(office), (2, ["ca", "cb", "cc"]))
        self.assertEqual(best_order(office), (3, ["cb", "ca", "cc"]))

    def test_the_least_of_several(self):
        office = graph_office(["a", "bc", "ab"])
        self.assertEqual(worst_order(office), (2, ["ca", "cb", "cc"]))
        self.assertEqual(best_order(office), (3, ["ca", "cc", "cb"]))
        office = graph_office(["a", "ab", "c"])
        self.assertEqual(worst_order(office), (2, ["cb", "ca", "cc"]))
        self.assertEqual(best_order(office), (3, ["ca", "cb", "cc"]))

    def test_drawn_offices(self):
        for office in drawn_offices(80) + drawn_offices(6, 5):
            turns = [(len(turn_of(office, order)), list(order)) for order in permutations(sorted(office.claims))]
            least, most = min(turns)[0], max(turns)[0]
            self.assertEqual(checked(self, worst_order, office), min(turn for turn in turns if turn[0] == least))
            self.assertEqual(checked(self, best_order, office), min(turn for turn in turns if turn[0] == most))
            self.assertEqual(most, len(greatest_matches(office)[0]))

    def test_six_claims(self):
        office = graph_office(["ab", "a", "bc", "cd", "de", "ef"])
        self.assertEqual(best_order(office), (6, ["cb", "ca", "cc", "cd", "ce", "cf"]))
        self.assertEqual(worst_order(office), (5, ["ca", "cb", "cc", "cd", "ce", "cf"]))
        self.assertEqual(worst_order(plain_office(8, 6)), (6, ["ca", "cb", "cc", "cd", "ce", "cf"]))

    def test_seven_claims(self):
        for office in (plain_office(8, 7), plain_office(0, 7), plain_office(8, 8), graph_office([""] * 7)):
            for call in (worst_order, best_order):
                self.assertEqual(len(told_attributes(self, TooMany, call, office)), 0)


if __name__ == "__main__":
    unittest.main()
