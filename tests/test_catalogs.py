"""Point 2: catalogs."""

import unittest

from lostdesk.catalogs import Catalog
from lostdesk.errors import InvalidCatalog, UnknownFeature

HUE = ("hue", ("blue", "red"))
SIZE = ("size", ("big", "mid", "small"))
EIGHT = ("a", "b", "c", "d", "e", "f", "g", "h")
NO_WORDS = ["", "abcdefghi", "abcdefghij", "Red", "rEd", "reD", "RED", "red1", "1", "12", "r d", " red", "red ", "-",
            "re-d", "red.", "red\n", "_", "`", "{", "@", "[", "\u00e4", "stra\u00dfe", "\u0131", "\u03b1", "\u00aa"]


def plain_features(count):
    """Return so many valid features with different names."""
    return tuple(("f" + "abcdefghij"[place], ("no", "yes")) for place in range(count))


class ValidCatalogTest(unittest.TestCase):
    def test_one_to_six_features(self):
        for count in range(1, 7):
            features = plain_features(count)
            catalog = Catalog(features)
            self.assertEqual(catalog.features, features)
            self.assertEqual(catalog.names, tuple(name for name, _ in features))
            self.assertEqual(len(catalog), count)

    def test_names_keep_the_order_of_the_features(self):
        catalog = Catalog((SIZE, HUE))
        self.assertEqual(catalog.names, ("size", "hue"))
        self.assertEqual(catalog.features, (SIZE, HUE))

    def test_two_to_eight_values(self):
        for count in range(2, 9):
            self.assertEqual(Catalog((("f", EIGHT[:count]),))["f"], EIGHT[:count])

    def test_words_of_one_and_of_eight_letters(self):
        catalog = Catalog((("a", ("abcdefgh", "z")), ("stuvwxyz", ("a", "zzzzzzzz"))))
        self.assertEqual(catalog["a"], ("abcdefgh", "z"))
        self.assertEqual(catalog["stuvwxyz"], ("a", "zzzzzzzz"))

    def test_features_may_share_values(self):
        self.assertEqual(Catalog((("one", ("no", "yes")), ("two", ("no", "yes")))).names, ("one", "two"))

    def test_a_feature_may_be_named_like_a_value(self):
        self.assertEqual(Catalog((("red", ("blue", "red")), ("blue", ("blue", "red")))).names, ("red", "blue"))

    def test_repeated_calls_return_equal_results(self):
        catalog = Catalog((HUE, SIZE))
        self.assertEqual(catalog.features, catalog.features)
        self.assertEqual(catalog.names, catalog.names)
        self.assertEqual(catalog["size"], catalog["size"])
        self.assertEqual(Catalog((HUE, SIZE)), Catalog((HUE, SIZE)))


class InvalidCatalogTest(unittest.TestCase):
    def check_index(self, features, index):
        with self.subTest(features=features):
            with self.assertRaises(InvalidCatalog) as caught:
                Catalog(features)
            self.assertEqual(caught.exception.index, index)

    def test_no_features(self):
        self.check_index((), 0)

    def test_seven_features_and_more(self):
        self.check_index(plain_features(7), 6)
        self.check_index(plain_features(9), 6)

    def test_a_wrong_seventh_or_eighth_feature(self):
        self.check_index(plain_features(6) + (("fa", ("no", "yes")),), 6)
        self.check_index(plain_features(6) + (("F", ()),), 6)
        self.check_index(plain_features(7) + (("F", ()),), 6)

    def test_a_wrong_feature_before_the_seventh(self):
        for place in range(6):
            features = plain_features(7)
            wrong = features[:place] + ((features[place][0], ("no",)),) + features[place + 1:]
            self.check_index(wrong, place)

    def test_names_that_are_no_words(self):
        for name in NO_WORDS:
            self.check_index(((name, ("blue", "red")),), 0)
            self.check_index((HUE, (name, ("blue", "red"))), 1)

    def test_values_that_are_no_words(self):
        for value in NO_WORDS:
            self.check_index((HUE, ("size", tuple(sorted((value, "m"))))), 1)
            self.check_index((HUE, ("size", tuple(sorted((value, "m", "n"))))), 1)

    def test_too_few_and_too_many_values(self):
        self.check_index((("f", ()),), 0)
        self.check_index((("f", ("a",)),), 0)
        self.check_index((("f", EIGHT + ("i",)),), 0)
        self.check_index((HUE, ("f", EIGHT + ("i",))), 1)

    def test_values_that_do_not_ascend(self):
        self.check_index((("hue", ("red", "blue")),), 0)
        self.check_index((("hue", ("blue", "red", "green")),), 0)
        self.check_index((("hue", ("green", "blue", "red")),), 0)
        self.check_index((("hue", ("b", "a", "c", "d", "e", "f", "g", "h")),), 0)
        self.check_index((("hue", ("a", "b", "c", "d", "e", "f", "h", "g")),), 0)

    def test_values_that_stand_twice(self):
        self.check_index((("hue", ("red", "red")),), 0)
        self.check_index((("hue", ("blue", "blue", "red")),), 0)
        self.check_index((("hue", ("blue", "red", "red")),), 0)
        self.check_index((("hue", ("blue", "red", "blue")),), 0)

    def test_a_name_twice(self):
        self.check_index((HUE, HUE), 1)
        self.check_index((HUE, SIZE, ("hue", ("no", "yes"))), 2)
        self.check_index((HUE, SIZE, ("size", ("no", "yes")), ("hue", ("no", "yes"))), 2)

    def test_the_first_of_several_wrong_features(self):
        self.check_index((("Hue", ()), ("size", ())), 0)
        self.check_index((HUE, ("hue", ("no", "yes")), ("size", ())), 1)
        self.check_index((HUE, ("size", ("no",)), ("hue", ("no", "yes"))), 1)
        self.check_index((HUE, SIZE, ("Form", ("a", "b")), ("size", ("a", "b")), ("g", ())), 2)

    def test_the_name_of_a_wrong_feature_twice(self):
        self.check_index((("hue", ("red",)), ("hue", ("blue", "red"))), 0)


class CatalogSignsTest(unittest.TestCase):
    def setUp(self):
        self.catalog = Catalog((HUE, SIZE))

    def test_item(self):
        self.assertEqual(self.catalog["hue"], ("blue", "red"))
        self.assertEqual(self.catalog["size"], ("big", "mid", "small"))

    def test_item_that_there_is_not(self):
        for name in ("form", "blue", "", "Hue", "hu", "hues"):
            with self.subTest(name=name), self.assertRaises(UnknownFeature):
                self.catalog[name]

    def test_in(self):
        self.assertIs("hue" in self.catalog, True)
        self.assertIs("size" in self.catalog, True)
        for name in ("form", "blue", "", "Hue", "hu", "hues"):
            self.assertIs(name in self.catalog, False)

    def test_equal(self):
        self.assertTrue(self.catalog == Catalog((HUE, SIZE)))
        self.assertFalse(self.catalog != Catalog((HUE, SIZE)))

    def test_unequal(self):
        others = [(HUE,), (SIZE, HUE), (HUE, SIZE, ("form", ("a", "b"))), (HUE, ("size", ("big", "small"))),
                  (HUE, ("sizes", SIZE[1])), (("hue", ("blue", "rot")), SIZE)]
        for features in others:
            with self.subTest(features=features):
                self.assertFalse(self.catalog == Catalog(features))
                self.assertTrue(self.catalog != Catalog(features))

    def test_unequal_to_what_is_no_catalog(self):
        self.assertFalse(self.catalog == (HUE, SIZE))
        self.assertFalse(self.catalog == None)  # noqa: E711
        self.assertTrue(self.catalog != "hue")

    def test_no_iteration(self):
        with self.assertRaises(TypeError):
            iter(self.catalog)
        with self.assertRaises(TypeError):
            list(self.catalog)
        with self.assertRaises(TypeError):
            for _ in self.catalog:
                pass

    def test_properties_cannot_be_assigned(self):
        with self.assertRaises(AttributeError):
            self.catalog.features = ()
        with self.assertRaises(AttributeError):
            self.catalog.names = ()
        self.assertEqual(self.catalog.features, (HUE, SIZE))

    def test_a_call_that_raises_changes_nothing(self):
        with self.assertRaises(UnknownFeature):
            self.catalog["form"]
        self.assertEqual(self.catalog, Catalog((HUE, SIZE)))
        self.assertEqual(len(self.catalog), 2)
        self.assertNotIn("form", self.catalog)


if __name__ == "__main__":
    unittest.main()
