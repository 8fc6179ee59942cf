"""Point 3: notes."""

import unittest
from itertools import product

from lostdesk.catalogs import Catalog
from lostdesk.errors import Conflict, InvalidNote, UnknownFeature
from lostdesk.notes import Note

FEATURES = (("size", ("big", "mid", "small")), ("hue", ("blue", "red")), ("form", ("flat", "long", "round", "square")))
CATALOG = Catalog(FEATURES)


def all_values(note):
    """Return the values of all features of a note, in the order of the catalog."""
    return [note[name] for name in note.catalog.names]


class ToldTest(unittest.TestCase):
    def test_nothing_told(self):
        note = Note(CATALOG, {})
        self.assertEqual(all_values(note), [values for _, values in FEATURES])
        self.assertEqual(note.description_count, 3 * 2 * 4)

    def test_all_told(self):
        note = Note(CATALOG, {"form": ("long", "square"), "hue": ("red",), "size": ("big", "small")})
        self.assertEqual(all_values(note), [("big", "small"), ("red",), ("long", "square")])
        self.assertEqual(note.description_count, 4)

    def test_some_told(self):
        note = Note(CATALOG, {"hue": ("blue",)})
        self.assertEqual(all_values(note), [("big", "mid", "small"), ("blue",), ("flat", "long", "round", "square")])
        self.assertEqual(note.description_count, 12)

    def test_all_values_told(self):
        note = Note(CATALOG, dict(FEATURES))
        self.assertEqual(all_values(note), [values for _, values in FEATURES])

    def test_one_description(self):
        note = Note(CATALOG, {"hue": ("red",), "size": ("mid",), "form": ("flat",)})
        self.assertEqual(note.description_count, 1)

    def test_most_descriptions(self):
        values = tuple("abcdefgh")
        catalog = Catalog(tuple((name, values) for name in "pqrstu"))
        self.assertEqual(Note(catalog, {}).description_count, 8 ** 6)

    def test_catalog(self):
        self.assertEqual(Note(CATALOG, {"hue": ("red",)}).catalog, CATALOG)

    def test_the_count_is_that_of_all_descriptions(self):
        choices = [None, ("big",), ("big", "small"), ("big", "mid", "small")]
        for sizes, hues in product(choices, [None, ("red",), ("blue", "red")]):
            told = {"size": sizes, "hue": hues}
            note = Note(CATALOG, {name: values for name, values in told.items() if values is not None})
            self.assertEqual(note.description_count, len(list(product(*all_values(note)))))


class InvalidNoteTest(unittest.TestCase):
    def check_feature(self, told, feature):
        with self.subTest(told=told):
            with self.assertRaises(InvalidNote) as caught:
                Note(CATALOG, told)
            self.assertEqual(caught.exception.feature, feature)

    def test_an_unknown_feature(self):
        self.check_feature({"age": ("old",)}, "age")
        self.check_feature({"Hue": ("red",)}, "Hue")
        self.check_feature({"": ("red",)}, "")
        self.check_feature({"red": ("red",)}, "red")

    def test_the_least_of_several_unknown_features(self):
        self.check_feature({"kind": ("a",), "age": ("a",), "weight": ("a",)}, "age")
        self.check_feature({"weight": ("a",), "kind": ("a",), "hue": ("red",)}, "kind")

    def test_unknown_features_before_wrong_values(self):
        self.check_feature({"size": (), "weight": ("a",)}, "weight")
        self.check_feature({"form": ("red",), "weight": (), "hue": (), "zz": ()}, "weight")

    def test_an_empty_tuple(self):
        self.check_feature({"hue": ()}, "hue")
        self.check_feature({"form": ()}, "form")

    def test_values_that_do_not_ascend(self):
        self.check_feature({"hue": ("red", "blue")}, "hue")
        self.check_feature({"form": ("flat", "round", "long")}, "form")
        self.check_feature({"form": ("long", "flat", "square")}, "form")

    def test_values_that_stand_twice(self):
        self.check_feature({"hue": ("red", "red")}, "hue")
        self.check_feature({"form": ("flat", "flat", "long")}, "form")
        self.check_feature({"form": ("flat", "long", "long")}, "form")

    def test_foreign_values(self):
        self.check_feature({"hue": ("green",)}, "hue")
        self.check_feature({"hue": ("blue", "green")}, "hue")
        self.check_feature({"hue": ("blue", "green", "red")}, "hue")
        self.check_feature({"hue": ("big",)}, "hue")
        self.check_feature({"hue": ("Red",)}, "hue")
        self.check_feature({"hue": ("",)}, "hue")

    def test_the_first_wrong_feature_in_the_order_of_the_catalog(self):
        self.check_feature({"form": (), "hue": ("green",), "size": ("small", "big")}, "size")
        self.check_feature({"form": (), "hue": ("green",), "size": ("big",)}, "hue")
        self.check_feature({"form": (), "hue": ("red",)}, "form")
        self.check_feature({"form": ("flat",), "hue": ()}, "hue")


class BothTest(unittest.TestCase):
    def test_common_values(self):
        one = Note(CATALOG, {"size": ("big", "mid"), "form": ("flat", "round", "square")})
        other = Note(CATALOG, {"size": ("mid", "small"), "hue": ("red",), "form": ("flat", "long", "square")})
        wanted = [("mid",), ("red",), ("flat", "square")]
        self.assertEqual(all_values(one.both(other)), wanted)
        self.assertEqual(all_values(other.both(one)), wanted)
        self.assertEqual(one.both(other).catalog, CATALOG)

    def test_with_nothing_told_and_with_itself(self):
        one = Note(CATALOG, {"size": ("big", "mid")})
        self.assertEqual(one.both(Note(CATALOG, {})), one)
        self.assertEqual(Note(CATALOG, {}).both(one), one)
        self.assertEqual(one.both(one), one)

    def test_with_an_equal_catalog(self):
        one = Note(CATALOG, {"size": ("big", "mid")})
        other = Note(Catalog(FEATURES), {"size": ("mid", "small")})
        self.assertEqual(one.both(other)["size"], ("mid",))

    def test_conflict(self):
        one = Note(CATALOG, {"hue": ("red",)})
        with self.assertRaises(Conflict) as caught:
            one.both(Note(CATALOG, {"hue": ("blue",)}))
        self.assertEqual(caught.exception.feature, "hue")

    def test_the_first_conflict_in_the_order_of_the_catalog(self):
        one = Note(CATALOG, {"form": ("flat", "long"), "hue": ("red",), "size": ("big",)})
        for told, feature in [({"form": ("round",), "size": ("mid", "small"), "hue": ("blue",)}, "size"),
                              ({"form": ("round",), "hue": ("blue",)}, "hue"),
                              ({"form": ("round", "square"), "size": ("big", "mid")}, "form")]:
            with self.subTest(told=told), self.assertRaises(Conflict) as caught:
                one.both(Note(CATALOG, told))
            self.assertEqual(caught.exception.feature, feature)

    def test_the_notes_stay_as_they_are(self):
        one = Note(CATALOG, {"size": ("big", "mid")})
        other = Note(CATALOG, {"size": ("mid", "small"), "hue": ("red",)})
        self.assertEqual(one.both(other), one.both(other))
        with self.assertRaises(Conflict):
            one.both(Note(CATALOG, {"size": ("small",)}))
        self.assertEqual(one, Note(CATALOG, {"size": ("big", "mid")}))
        self.assertEqual(other, Note(CATALOG, {"size": ("mid", "small"), "hue": ("red",)}))


class NarrowedTest(unittest.TestCase):
    def setUp(self):
        self.note = Note(CATALOG, {"size": ("big", "mid")})

    def test_narrowed(self):
        self.assertEqual(self.note.narrowed("size", "mid"), Note(CATALOG, {"size": ("mid",)}))
        self.assertEqual(self.note.narrowed("hue", "red"), Note(CATALOG, {"size": ("big", "mid"), "hue": ("red",)}))
        self.assertEqual(self.note.narrowed("hue", "red").catalog, CATALOG)

    def test_narrowed_twice(self):
        narrow = self.note.narrowed("size", "mid")
        self.assertEqual(narrow.narrowed("size", "mid"), narrow)

    def test_conflict(self):
        for value in ("small", "huge", "red", "", "Big"):
            with self.subTest(value=value), self.assertRaises(Conflict) as caught:
                self.note.narrowed("size", value)
            self.assertEqual(caught.exception.feature, "size")

    def test_unknown_feature(self):
        for name, value in [("age", "old"), ("age", "big"), ("Size", "big"), ("big", "big"), ("", "")]:
            with self.subTest(name=name), self.assertRaises(UnknownFeature):
                self.note.narrowed(name, value)

    def test_the_note_stays_as_it_is(self):
        self.note.narrowed("size", "mid")
        with self.assertRaises(Conflict):
            self.note.narrowed("size", "small")
        self.assertEqual(self.note, Note(CATALOG, {"size": ("big", "mid")}))
        self.assertEqual(self.note["size"], ("big", "mid"))


class NoteSignsTest(unittest.TestCase):
    def test_item_that_there_is_not(self):
        note = Note(CATALOG, {"hue": ("red",)})
        for name in ("age", "red", "", "Hue", "hu"):
            with self.subTest(name=name), self.assertRaises(UnknownFeature):
                note[name]

    def test_equal_although_told_otherwise(self):
        pairs = [({}, {"hue": ("blue", "red")}),
                 ({}, dict(FEATURES)),
                 ({"hue": ("red",), "size": ("mid",)}, {"size": ("mid",), "hue": ("red",)}),
                 ({"form": ("flat",)}, {"size": ("big", "mid", "small"), "form": ("flat",)})]
        for told, other in pairs:
            with self.subTest(told=told, other=other):
                self.assertTrue(Note(CATALOG, told) == Note(Catalog(FEATURES), other))
                self.assertFalse(Note(CATALOG, told) != Note(Catalog(FEATURES), other))

    def test_unequal(self):
        for told in [{}, {"hue": ("blue",)}, {"size": ("big",)}, {"hue": ("red",), "size": ("big",)}]:
            with self.subTest(told=told):
                self.assertFalse(Note(CATALOG, {"hue": ("red",)}) == Note(CATALOG, told))
                self.assertTrue(Note(CATALOG, {"hue": ("red",)}) != Note(CATALOG, told))

    def test_unequal_with_another_catalog(self):
        turned = Catalog(FEATURES[::-1])
        self.assertFalse(Note(CATALOG, {"hue": ("red",)}) == Note(turned, {"hue": ("red",)}))
        wider = Catalog((("hue", ("blue", "green", "red")),))
        narrower = Catalog((("hue", ("blue", "red")),))
        self.assertFalse(Note(wider, {"hue": ("red",)}) == Note(narrower, {"hue": ("red",)}))

    def test_unequal_to_what_is_no_note(self):
        note = Note(CATALOG, {})
        self.assertFalse(note == CATALOG)
        self.assertFalse(note == {})
        self.assertFalse(note == None)  # noqa: E711
        self.assertTrue(note != FEATURES)

    def test_no_iteration(self):
        note = Note(CATALOG, {"hue": ("red",)})
        with self.assertRaises(TypeError):
            iter(note)
        with self.assertRaises(TypeError):
            list(note)
        with self.assertRaises(TypeError):
            for _ in note:
                pass

    def test_the_dict_is_neither_kept_nor_changed(self):
        told = {"hue": ("red",)}
        note = Note(CATALOG, told)
        self.assertEqual(told, {"hue": ("red",)})
        told["hue"] = ("blue",)
        told["size"] = ("big",)
        self.assertEqual(note, Note(CATALOG, {"hue": ("red",)}))
        self.assertEqual(note["hue"], ("red",))
        self.assertEqual(note.description_count, 12)
        told.clear()
        self.assertEqual(note["hue"], ("red",))

    def test_a_dict_that_is_wrong_stays_as_it_is(self):
        told = {"hue": (), "age": ("old",)}
        with self.assertRaises(InvalidNote):
            Note(CATALOG, told)
        self.assertEqual(told, {"hue": (), "age": ("old",)})

    def test_properties_cannot_be_assigned(self):
        note = Note(CATALOG, {})
        with self.assertRaises(AttributeError):
            note.catalog = Catalog(FEATURES[:1])
        with self.assertRaises(AttributeError):
            note.description_count = 1
        self.assertEqual(note, Note(CATALOG, {}))


if __name__ == "__main__":
    unittest.main()
