"""Points 10 and 11: scores and prices."""

import unittest
from itertools import product
from random import Random

from helpers import all_matches, drawn_offices, graph_office, plain_fits, plain_office, plain_score
from lostdesk.catalogs import Catalog
from lostdesk.errors import InvalidPrices, NotEnough, NotFitting, UnknownLabel
from lostdesk.notes import Note
from lostdesk.offices import Claim, Office, Thing
from lostdesk.scores import best_match, best_prices, score, shown_bound

CATALOG = Catalog((("hue", ("blue", "red")), ("size", ("big", "small"))))
NOTE = Note(CATALOG, {})
RED = Note(CATALOG, {"hue": ("red",), "size": ("big",)})
BLUE = Note(CATALOG, {"hue": ("blue",)})
BLUE_SMALL = Note(CATALOG, {"hue": ("blue",), "size": ("small",)})
HIGHEST = 10 ** 12


def wanted_match(office):
    """Return what best_match is to return, by all matches."""
    scored = [(sum(plain_score(office, *pair) for pair in pairs), pairs) for pairs in all_matches(office)]
    best = max(total for total, _ in scored)
    found = [pairs for total, pairs in scored if total == best]
    most = max(len(pairs) for pairs in found)
    return best, [pairs for pairs in found if len(pairs) == most][0]


def all_prices(office, price):
    """Return the same price for all labels."""
    return {label: price for label in list(office.claims) + list(office.things)}


class ScoreTest(unittest.TestCase):
    def test_worth_times_features_that_are_no_misfits(self):
        things = {"cap": Thing(RED, 3), "hat": Thing(BLUE, 3), "key": Thing(BLUE_SMALL, 3)}
        office = Office(CATALOG, things, {"ann": Claim(RED, 1, 2, 7), "bob": Claim(RED, 1, 1)})
        self.assertEqual([score(office, "ann", thing) for thing in ("cap", "hat", "key")], [14, 7, 0])
        self.assertEqual([score(office, "bob", thing) for thing in ("cap", "hat")], [2, 1])

    def test_six_features_of_the_greatest_worth(self):
        catalog = Catalog(tuple((name, ("no", "yes")) for name in "abcdef"))
        note = Note(catalog, {})
        office = Office(catalog, {"cap": Thing(note, 0)}, {"ann": Claim(note, 0, 0, 10 ** 9)})
        self.assertEqual(score(office, "ann", "cap"), 6 * 10 ** 9)

    def test_what_does_not_fit(self):
        things = {"cap": Thing(RED, 3), "hat": Thing(BLUE, 3)}
        office = Office(CATALOG, things, {"ann": Claim(RED, 3), "bob": Claim(NOTE, 4)})
        self.assertEqual(score(office, "ann", "cap"), 2)
        for claim, thing in (("ann", "hat"), ("bob", "cap"), ("bob", "hat")):
            with self.assertRaises(NotFitting):
                score(office, claim, thing)

    def test_unknown_labels(self):
        office = graph_office(["a", ""])
        for claim, thing in (("zz", "ta"), ("ca", "zz"), ("zz", "zz"), ("ta", "ca"), ("cb", "zz"), ("cb", "ca"),
                             ("ta", "ta"), ("", "")):
            with self.subTest(claim=claim, thing=thing), self.assertRaises(UnknownLabel):
                score(office, claim, thing)

    def test_drawn_offices(self):
        for office in drawn_offices(40):
            for claim, thing in product(office.claims, office.things):
                if plain_fits(office, claim, thing):
                    self.assertEqual(score(office, claim, thing), plain_score(office, claim, thing))
                else:
                    with self.assertRaises(NotFitting):
                        score(office, claim, thing)


class BestMatchTest(unittest.TestCase):
    def test_nothing_to_match(self):
        for office in (plain_office(0, 0), plain_office(3, 0), plain_office(0, 3), graph_office(["", ""])):
            self.assertEqual(best_match(office), (0, {}))

    def test_the_greatest_score_needs_not_the_most_pairs(self):
        # Bob has only the cap, and Ann prefers it by far.
        things = {"cap": Thing(RED, 3), "hat": Thing(BLUE, 3)}
        office = Office(CATALOG, things, {"ann": Claim(RED, 1, 0, 9), "bob": Claim(RED, 1, 0, 5)})
        self.assertEqual(best_match(office), (18, {"ann": "cap"}))
        later = office.with_claim("ann", Claim(RED, 1, 1, 9))
        self.assertEqual(best_match(later), (19, {"ann": "hat", "bob": "cap"}))
        poor = later.with_claim("bob", Claim(RED, 1, 0, 4))
        self.assertEqual(best_match(poor), (18, {"ann": "cap"}))

    def test_of_equal_scores_the_one_with_more_pairs(self):
        # Ann with the cap has 18 alone, and both have 9 + 9 with the things the other way round.
        things = {"cap": Thing(RED, 3), "hat": Thing(BLUE, 3)}
        claims = {"ann": Claim(RED, 1, 1, 10), "bob": Claim(RED, 1, 0, 5)}
        office = Office(CATALOG, things, claims)
        self.assertEqual(best_match(office), (20, {"ann": "hat", "bob": "cap"}))

    def test_pairs_of_score_0_are_pairs(self):
        catalog = Catalog((("hue", ("blue", "red")),))
        red, blue = Note(catalog, {"hue": ("red",)}), Note(catalog, {"hue": ("blue",)})
        things = {"cap": Thing(red, 3), "hat": Thing(red, 3)}
        office = Office(catalog, things, {"ann": Claim(blue, 1, 1, 9), "bob": Claim(blue, 1, 2, 8)})
        self.assertEqual(score(office, "ann", "cap"), 0)
        self.assertEqual(best_match(office), (0, {"ann": "cap", "bob": "hat"}))
        self.assertEqual(best_match(office.without("cap")), (0, {"ann": "hat"}))
        self.assertEqual(shown_bound(office, best_prices(office)), 0)

    def test_the_first_of_several(self):
        score_of_all, match = best_match(plain_office(3, 3))
        self.assertEqual((score_of_all, list(match.items())), (3, [("ca", "ta"), ("cb", "tb"), ("cc", "tc")]))
        self.assertEqual(list(best_match(plain_office(2, 3))[1].items()), [("ca", "ta"), ("cb", "tb")])
        self.assertEqual(best_match(graph_office(["ab", "a", "ab"], [1, 2, 1])), (3, {"ca": "tb", "cb": "ta"}))

    def test_drawn_offices(self):
        for office in drawn_offices(120) + drawn_offices(8, 5):
            total, match = best_match(office)
            self.assertEqual((total, list(match.items())), wanted_match(office))

    def test_eight_by_eight(self):
        total, match = best_match(plain_office(8, 8))
        self.assertEqual((total, match), (8, {"c" + letter: "t" + letter for letter in "abcdefgh"}))
        worths = [5, 3, 9, 1, 7, 2, 8, 6]
        office = graph_office(["abc"] * 8, worths)
        self.assertEqual(best_match(office), (24, {"cc": "ta", "ce": "tb", "cg": "tc"}))

    def test_great_worths(self):
        worths = [10 ** 9, 10 ** 9 - 1, 10 ** 9 - 2]
        self.assertEqual(best_match(graph_office(["a", "ab", "b"], worths)), (2 * 10 ** 9 - 1, {"ca": "ta", "cb": "tb"}))
        self.assertEqual(best_match(graph_office(["ab", "a", "c"], worths)),
                         (sum(worths), {"ca": "tb", "cb": "ta", "cc": "tc"}))

    def test_results_are_new_and_equal(self):
        office = plain_office(2, 2)
        self.assertIsInstance(best_match(office), tuple)
        best_match(office)[1].clear()
        self.assertEqual(best_match(office), (2, {"ca": "ta", "cb": "tb"}))
        self.assertEqual(office, plain_office(2, 2))


class ShownBoundTest(unittest.TestCase):
    def setUp(self):
        things = {"cap": Thing(RED, 3), "hat": Thing(BLUE, 3)}
        claims = {"ann": Claim(RED, 1, 1, 4), "bob": Claim(RED, 1, 0, 5), "cy": Claim(RED, 5, 0, 50)}
        # The scores are 8 for Ann and the cap, 4 for Ann and the hat, 10 for Bob and the cap.
        self.office = Office(CATALOG, things, claims)
        self.prices = {"ann": 4, "bob": 6, "cy": 0, "cap": 4, "hat": 0}

    def check_label(self, prices, label):
        before = dict(prices)
        with self.subTest(prices=prices):
            with self.assertRaises(InvalidPrices) as caught:
                shown_bound(self.office, prices)
            self.assertEqual(caught.exception.label, label)
            self.assertEqual(prices, before)

    def check_pair(self, prices, claim, thing):
        with self.subTest(prices=prices):
            with self.assertRaises(NotEnough) as caught:
                shown_bound(self.office, prices)
            self.assertEqual((caught.exception.claim, caught.exception.thing), (claim, thing))

    def test_just_enough(self):
        self.assertEqual(shown_bound(self.office, self.prices), 14)
        self.assertEqual(shown_bound(self.office, {**self.prices, "cy": 7, "hat": 1}), 22)
        self.assertEqual(self.prices, {"ann": 4, "bob": 6, "cy": 0, "cap": 4, "hat": 0})

    def test_one_too_little(self):
        self.check_pair({**self.prices, "ann": 3}, "ann", "cap")
        self.check_pair({**self.prices, "ann": 3, "cap": 5}, "ann", "hat")
        self.check_pair({**self.prices, "bob": 5}, "bob", "cap")
        self.check_pair({**self.prices, "cap": 3}, "ann", "cap")

    def test_the_first_pair_with_less(self):
        self.check_pair(all_prices(self.office, 0), "ann", "cap")
        self.check_pair({**all_prices(self.office, 0), "cap": 8}, "ann", "hat")
        self.check_pair({**all_prices(self.office, 0), "ann": 8}, "bob", "cap")

    def test_pairs_that_do_not_fit_need_nothing(self):
        self.assertEqual(shown_bound(self.office, {"ann": 8, "bob": 10, "cy": 0, "cap": 0, "hat": 0}), 18)

    def test_missing_labels(self):
        for label in self.prices:
            self.check_label({other: price for other, price in self.prices.items() if other != label}, label)
        self.check_label({}, "ann")
        self.check_label({"ann": 4, "bob": 6, "cy": 1}, "cap")

    def test_superfluous_labels(self):
        for label in ("bag", "zz", "", "Ann"):
            self.check_label({**self.prices, label: 1}, label)
        self.check_label({**self.prices, "zz": 1, "dan": 1, "key": 1}, "dan")

    def test_prices_out_of_range(self):
        for label in self.prices:
            for price in (-1, -10 ** 12, HIGHEST + 1, 10 ** 13):
                self.check_label({**self.prices, label: price}, label)

    def test_booleans_are_no_prices(self):
        for label in self.prices:
            for price in (True, False):
                self.check_label({**all_prices(self.office, HIGHEST), label: price}, label)
        self.check_label({**self.prices, "cy": True, "zz": 1}, "cy")
        self.check_label({**self.prices, "cy": True, "bag": 1}, "bag")
        self.check_label({**self.prices, "cy": True, "bob": -1}, "bob")

    def test_prices_at_the_limits(self):
        self.assertEqual(shown_bound(self.office, all_prices(self.office, HIGHEST)), 5 * HIGHEST)
        self.assertEqual(shown_bound(self.office, {**self.prices, "ann": HIGHEST, "cap": 10, "bob": 0}), HIGHEST + 10)

    def test_the_least_wrong_label(self):
        self.check_label({"bob": -1, "cap": 4, "cy": 0, "hat": 0, "al": 1}, "al")
        self.check_label({"bob": -1, "cap": 4, "cy": 0, "hat": 0, "zz": 1}, "ann")
        self.check_label({"ann": 4, "bob": 6, "cap": HIGHEST + 1, "cy": -1, "bag": 0}, "bag")
        self.check_label({"ann": 4, "bob": 6, "cap": HIGHEST + 1, "cy": -1, "zz": 0}, "cap")
        self.check_label({**self.prices, "hat": -1, "key": 1}, "hat")
        self.check_label({"ann": 4, "bob": 6, "cy": 0, "cap": 4, "key": 1}, "hat")
        self.check_label({"ann": 4, "bob": 6, "cy": 0, "cap": 4, "gem": 1}, "gem")

    def test_wrong_prices_before_too_low_ones(self):
        self.check_label({**all_prices(self.office, 0), "hat": -1}, "hat")
        self.check_label({**all_prices(self.office, 0), "zz": 0}, "zz")

    def test_an_office_without_anything(self):
        self.assertEqual(shown_bound(plain_office(0, 0), {}), 0)
        with self.assertRaises(InvalidPrices) as caught:
            shown_bound(plain_office(0, 0), {"ann": 0})
        self.assertEqual(caught.exception.label, "ann")

    def test_drawn_prices(self):
        random = Random(7)
        for office in drawn_offices(80):
            prices = {label: random.randint(0, 6) for label in all_prices(office, 0)}
            less = [(claim, thing) for claim, thing in product(sorted(office.claims), sorted(office.things))
                    if plain_fits(office, claim, thing)
                    and prices[claim] + prices[thing] < plain_score(office, claim, thing)]
            if less:
                with self.assertRaises(NotEnough) as caught:
                    shown_bound(office, prices)
                self.assertEqual((caught.exception.claim, caught.exception.thing), less[0])
            else:
                self.assertEqual(shown_bound(office, prices), sum(prices.values()))


class BestPricesTest(unittest.TestCase):
    def check_prices(self, office, best):
        prices = best_prices(office)
        self.assertEqual(sorted(prices), sorted(list(office.claims) + list(office.things)))
        self.assertTrue(all(0 <= price <= HIGHEST for price in prices.values()))
        self.assertEqual(sum(prices.values()), best)
        self.assertEqual(shown_bound(office, prices), best)
        self.assertEqual(best_prices(office), prices)

    def test_nothing_to_match(self):
        for office in (plain_office(0, 0), plain_office(3, 0), plain_office(0, 3), graph_office(["", ""])):
            self.check_prices(office, 0)

    def test_drawn_offices(self):
        for office in drawn_offices(120) + drawn_offices(8, 5):
            self.check_prices(office, wanted_match(office)[0])

    def test_larger_offices(self):
        random = Random(3)
        for _ in range(12):
            rows = ["".join(sorted(random.sample("abcdefgh", random.randint(0, 8)))) for _ in range(8)]
            office = graph_office(rows, [random.choice([1, 2, 3, 5, 8, 10 ** 9]) for _ in range(8)])
            self.check_prices(office, best_match(office)[0])

    def test_all_fit_all(self):
        self.check_prices(plain_office(8, 8), 8)
        self.check_prices(plain_office(8, 3), 3)
        self.check_prices(plain_office(3, 8), 3)

    def test_results_are_new(self):
        office = plain_office(2, 2)
        best_prices(office).clear()
        self.check_prices(office, 2)
        self.assertEqual(office, plain_office(2, 2))


if __name__ == "__main__":
    unittest.main()
