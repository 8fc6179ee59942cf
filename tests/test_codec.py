"""Point 28: the codes of offices."""

import unittest
from random import Random

from helpers import checked, drawn_note, drawn_offices, frozen, graph_office, plain_office, told_attributes
from lostdesk.catalogs import Catalog
from lostdesk.codec import decode_office, encode_office
from lostdesk.errors import DecodeError, InvalidCatalog, InvalidEntry
from lostdesk.notes import Note
from lostdesk.offices import Claim, Office, Thing

NO_ITEMS = (-1, 256, 10 ** 9, True, False, None, "1", "", 1.0, 1.5, (1,), [1], {}, b"1")
# A catalog of a feature a with b and c, a thing d of day 256 and a claim e of day 0, slips 1 and worth 5.
CODE = [108, 1, 1, 1, 2, 1, 2, 1, 3, 1, 1, 4, 2, 1, 0, 1, 0, 1, 1, 1, 1, 5, 1, 0, 1, 1, 5, 0]
FEATURE = [108, 1, 1, 1, 2, 1, 2, 1, 3]


def plain_sum(items):
    """Return the checksum of the items before it."""
    total = 7 * pow(11, len(items), 251)
    for place, item in enumerate(items):
        total += item * pow(11, len(items) - 1 - place, 251)
    return total % 251


def closed(items):
    """Return items with the right checksum behind them."""
    return items + [plain_sum(items)]


def plain_code(office):
    """Return the code of an office."""
    def word(text):
        return [len(text)] + [ord(letter) - 96 for letter in text]

    def number(value):
        count = max(1, (value.bit_length() + 7) // 8)
        return [count, *value.to_bytes(count, "big")]

    def note(entry):
        told = [(place, [values.index(value) for value in entry.note[name]])
                for place, (name, values) in enumerate(office.catalog.features) if entry.note[name] != values]
        return [len(told)] + [item for place, places in told for item in [place, len(places), *places]]

    items = [108, len(office.catalog.features)]
    for name, values in office.catalog.features:
        items += word(name) + [len(values)] + [item for value in values for item in word(value)]
    items += [len(office.things)]
    for label, thing in sorted(office.things.items(), key=lambda entry: entry[0]):
        items += word(label) + number(thing.day) + note(thing)
    items += [len(office.claims)]
    for label, claim in sorted(office.claims.items(), key=lambda entry: entry[0]):
        items += word(label) + number(claim.day) + [claim.slips] + number(claim.worth) + note(claim)
    return closed(items)


def plain_reader():
    """Yield the range in which each next item must be, and take the item; return features, things and claims."""
    def word():
        count = yield 1, 8
        text = ""
        for _ in range(count):
            letter = yield 1, 26
            text += chr(letter + 96)
        return text

    def number():
        count = yield 1, 9
        digits = [(yield (1 if count > 1 else 0, 255))]
        for _ in range(count - 1):
            digits.append((yield 0, 255))
        return int.from_bytes(bytes(digits), "big")

    def note(features):
        count = yield 0, len(features)
        told, last = {}, -1
        for _ in range(count):
            last = yield last + 1, len(features) - 1
            chosen, place = [], -1
            for _ in range((yield 1, len(features[last][1]))):
                place = yield place + 1, len(features[last][1]) - 1
                chosen.append(features[last][1][place])
            told[features[last][0]] = tuple(chosen)
        return told

    yield 108, 108
    features = []
    for _ in range((yield 1, 6)):
        name = yield from word()
        values = []
        for _ in range((yield 2, 8)):
            values.append((yield from word()))
        features.append((name, tuple(values)))
    parts, labels = [], []
    for kind in ("thing", "claim"):
        own = []
        for _ in range((yield 0, 8)):
            label = yield from word()
            if label in labels or own and label < own[-1]:
                yield "label"
            own.append(label)
            labels.append(label)
            told = [(yield from number())]
            if kind == "claim":
                told.append((yield 0, 255))
                told.append((yield from number()))
            parts.append((kind, label, told, (yield from note(features))))
    return features, parts


def plain_decoded(values):
    """Return the office of a code, or the error that it must raise and its attributes."""
    reader = plain_reader()
    wanted = next(reader)
    offset = 0
    while True:
        if wanted == "label":
            return DecodeError, [offset - 1]
        if offset == len(values) or type(values[offset]) is not int or not 0 <= values[offset] <= 255:
            return DecodeError, [offset]
        if not wanted[0] <= values[offset] <= wanted[1]:
            return DecodeError, [offset]
        try:
            offset += 1
            wanted = reader.send(values[offset - 1])
        except StopIteration as end:
            features, parts = end.value
            break
    if offset == len(values) or type(values[offset]) is not int or values[offset] != plain_sum(values[:offset]):
        return DecodeError, [offset]
    if offset + 1 < len(values):
        return DecodeError, [offset + 1]
    return plain_built(features, parts)


def plain_built(features, parts):
    """Return the office of what was read, or the error that it must raise and its attributes."""
    for index, (name, values) in enumerate(features):
        if name in [other for other, _ in features[:index]] or list(values) != sorted(set(values)):
            return InvalidCatalog, [index]
    catalog = Catalog(tuple(features))
    for _, _, numbers, _ in parts:
        for number, (part, least, most) in zip(numbers, [("day", 0, 10 ** 18), ("slips", 0, 2), ("worth", 1, 10 ** 9)]):
            if not least <= number <= most:
                return InvalidEntry, [part]
    things = {label: Thing(Note(catalog, told), *numbers) for kind, label, numbers, told in parts if kind == "thing"}
    claims = {label: Claim(Note(catalog, told), *numbers) for kind, label, numbers, told in parts if kind == "claim"}
    return Office(catalog, things, claims)


def large_office():
    """Return an office in which all is as large as can be."""
    letters = "abcdefgh"
    random = Random(5)
    catalog = Catalog(tuple((letter * 8, tuple("valuez" + letter + other for other in letters)) for letter in "fbdcea"))
    things = {"thingzz" + letter: Thing(drawn_note(random, catalog), 10 ** 18 - place)
              for place, letter in enumerate(letters)}
    claims = {"claimzz" + letter: Claim(drawn_note(random, catalog), 10 ** 18 - place, place % 3, 10 ** 9 - place)
              for place, letter in enumerate(letters)}
    return Office(catalog, things, claims)


def small_offices():
    """Return offices that have all that codes can have, whose codes are short."""
    catalog = Catalog((("bc", ("ab", "b", "c")), ("a", ("a", "zz"))))
    notes = [Note(catalog, told) for told in ({}, {"bc": ("ab", "c"), "a": ("zz",)}, {"a": ("a",)}, {"bc": ("b",)})]
    offices = [Office(catalog, {}, {}), Office(catalog, {}, {"a": Claim(notes[1], 0, 2, 10 ** 9)}),
               Office(catalog, {"b": Thing(notes[1], 255), "ba": Thing(notes[0], 10 ** 18)},
                      {"a": Claim(notes[2], 256, 1)}),
               Office(catalog, {"zz": Thing(notes[3], 65536)},
                      {"a": Claim(notes[0], 1), "b": Claim(notes[3], 2, 0, 300)})]
    return offices


class CodecCase(unittest.TestCase):
    def check_code(self, values):
        """Compare with what is read item by item; return the kind of the outcome."""
        wanted = plain_decoded(values)
        if isinstance(wanted, Office):
            self.assertEqual(checked(self, decode_office, values), wanted)
            return Office
        self.check_error(values, *wanted)
        return wanted[0]

    def check_offset(self, values, offset):
        self.assertEqual(plain_decoded(values), (DecodeError, [offset]))
        self.check_error(values, DecodeError, [offset])

    def check_error(self, values, error, attributes):
        with self.subTest(values=values):
            self.assertEqual(told_attributes(self, error, decode_office, values), attributes)


class EncodeTest(CodecCase):
    def test_item_by_item_and_back(self):
        large = [large_office(), plain_office(8, 8), graph_office(["ab"] * 8)]
        for office in drawn_offices(150) + small_offices() + large:
            code = checked(self, encode_office, office)
            self.assertEqual(code, plain_code(office))
            self.assertTrue(all(type(item) is int and 0 <= item <= 255 for item in code))
            self.assertEqual(checked(self, decode_office, code), office)
            self.assertEqual(encode_office(decode_office(code)), code)

    def test_each_kind_of_item(self):
        code = closed(CODE)
        office = decode_office(code)
        catalog = Catalog((("a", ("b", "c")),))
        self.assertEqual(office, Office(catalog, {"d": Thing(Note(catalog, {"a": ("c",)}), 256)}, {}).with_claim(
            "e", Claim(Note(catalog, {}), 0, 1, 5)))
        self.assertEqual(encode_office(office), code)

    def test_numbers(self):
        catalog = Catalog((("a", ("b", "c")),))
        for day, digits in ((0, [0]), (1, [1]), (255, [255]), (256, [1, 0]), (65535, [255, 255]), (65536, [1, 0, 0]),
                            (2 ** 32, [1, 0, 0, 0, 0]), (2 ** 56 - 1, [255] * 7), (2 ** 56, [1] + [0] * 7),
                            (10 ** 18, [13, 224, 182, 179, 167, 100, 0, 0])):
            office = Office(catalog, {"d": Thing(Note(catalog, {}), day)}, {})
            code = closed(FEATURE + [1, 1, 4, len(digits)] + digits + [0, 0])
            self.assertEqual(encode_office(office), code)
            self.assertEqual(decode_office(code), office)

    def test_words(self):
        catalog = Catalog((("az", ("b", "zzzzzzzz")),))
        self.assertEqual(encode_office(Office(catalog, {}, {})),
                         closed([108, 1, 2, 1, 26, 2, 1, 2, 8, 26, 26, 26, 26, 26, 26, 26, 26, 0, 0]))

    def test_notes_with_all_values(self):
        code = closed(FEATURE + [1, 1, 4, 1, 7, 1, 0, 2, 0, 1, 0])
        office = decode_office(code)
        self.assertEqual(office.things["d"].note["a"], ("b", "c"))
        self.assertEqual(encode_office(office), closed(FEATURE + [1, 1, 4, 1, 7, 0, 0]))

    def test_codes_are_new_lists(self):
        office = decode_office(closed(CODE))
        before = frozen(office)
        encode_office(office).clear()
        self.assertEqual(encode_office(office), closed(CODE))
        code = closed(CODE)
        other = decode_office(code)
        code.clear()
        self.assertEqual((frozen(other), encode_office(other)), (before, closed(CODE)))


class ReadItemByItemTest(CodecCase):
    def test_each_item_changed_left_out_put_in(self):
        kinds = set()
        for office in small_offices():
            code = encode_office(office)
            for place in range(len(code)):
                near = {code[place] + step for step in (-2, -1, 1, 2)} & set(range(256))
                for item in sorted(near | {0, 1, 2, 3, 8, 9, 26, 27, 108, 251, 255}):
                    for items in (code[:place] + [item] + code[place + 1:], code[:place] + [item] + code[place:]):
                        kinds.add(self.check_code(items))
                        kinds.add(self.check_code(closed(items[:-1])))
                for items in (code[:place] + code[place + 1:], code[:place + 1] + code[place:]):
                    kinds.add(self.check_code(items))
                    kinds.add(self.check_code(closed(items[:-1])))
        self.assertEqual(kinds, {DecodeError, InvalidCatalog, InvalidEntry, Office})

    def test_no_items(self):
        for office in small_offices():
            code = encode_office(office)
            for place in range(len(code)):
                for item in NO_ITEMS:
                    self.check_error(code[:place] + [item] + code[place + 1:], DecodeError, [place])
                    self.check_error(code[:place] + [item] + code[place:], DecodeError, [place])
            for item in NO_ITEMS:
                self.check_error(code + [item], DecodeError, [len(code)])

    def test_booleans_that_are_like_the_right_items(self):
        code = closed(CODE)
        for place, item in enumerate(code):
            if item in (0, 1):
                self.check_offset(code[:place] + [item == 1] + code[place + 1:], place)

    def test_cut_at_each_place(self):
        for office in small_offices() + [large_office()]:
            code = encode_office(office)
            for place in range(len(code)):
                self.check_offset(code[:place], place)

    def test_an_item_behind_the_checksum(self):
        for office in small_offices():
            code = encode_office(office)
            for item in (0, 7, code[-1], 255):
                self.check_offset(code + [item], len(code))
            self.check_offset(closed(code), len(code))

    def test_wrong_checksums(self):
        for office in small_offices():
            code = encode_office(office)
            for item in range(256):
                if item != code[-1]:
                    self.check_offset(code[:-1] + [item], len(code) - 1)
                    self.check_offset(code[:-1] + [item, 0], len(code) - 1)

    def test_drawn_changes(self):
        for seed, office in enumerate(drawn_offices(60)):
            random = Random(seed)
            code = encode_office(office)
            for _ in range(30):
                items = code[:-1]
                for _ in range(random.choice([1, 1, 2, 3])):
                    place = random.randrange(len(items))
                    item = random.choice([random.choice(items), random.randint(0, 255), items[place] + 1])
                    items[place:place + random.randint(0, 1)] = [item] * random.choice([0, 1, 1])
                    items = items or [108]
                self.check_code(closed(items) + [9] * (random.random() < 0.1))


class WrongItemTest(CodecCase):
    def check_items(self, items, offset):
        """Check codes that begin with a feature a with the values b and c and then have these items."""
        self.check_offset(FEATURE + items, offset)
        self.check_offset(closed(FEATURE + items), offset)

    def test_the_first_item(self):
        self.check_offset([], 0)
        for item in (0, 107, 109, 255):
            self.check_offset([item] + closed(CODE)[1:], 0)
        self.check_offset([108], 1)

    def test_counts(self):
        for count in (0, 7, 255):
            self.check_offset([108, count] + CODE[2:], 1)
        for count in (0, 1, 9):
            self.check_offset([108, 1, 1, 1, count, 1, 2, 1, 3, 0, 0], 4)
        self.check_items([9], 9)
        self.check_items([0, 9], 10)
        self.check_items([1, 1, 4, 1, 0, 2], 14)
        self.check_items([1, 1, 4, 1, 0, 1, 0, 0], 16)
        self.check_items([1, 1, 4, 1, 0, 1, 0, 3, 0, 1, 1], 16)

    def test_words(self):
        for count in (0, 9):
            self.check_offset([108, 1, count, 1, 1, 1, 1, 1, 1, 1, 1, 1, 1, 2], 2)
            self.check_offset([108, 1, 1, 1, 2, count, 1, 1, 1, 1, 1, 1, 1, 1, 1, 2], 5)
            self.check_items([1, count, 1, 1, 1, 1, 1, 1, 1, 1, 1, 2], 10)
        for letter in (0, 27, 97):
            self.check_offset([108, 1, 2, 1, letter, 2], 4)
            self.check_items([1, 3, 1, 1, letter], 13)

    def test_numbers_with_their_digits(self):
        for count in (0, 10, 255):
            self.check_items([1, 1, 4, count] + [1] * 10 + [0, 0], 12)
            self.check_items([0, 1, 1, 4, 1, 3, 0, count] + [1] * 10 + [0], 16)
        for count in range(2, 10):
            self.check_items([1, 1, 4, count, 0] + [1] * (count - 1) + [0, 0], 13)
            self.check_items([0, 1, 1, 4, count, 0] + [1] * (count - 1) + [0, 1, 1, 0], 14)
            self.check_items([0, 1, 1, 4, 1, 3, 0, count, 0] + [1] * (count - 1) + [0], 17)
        for count in range(1, 9):
            day = int.from_bytes(bytes([1] * count), "big")
            office = decode_office(closed(FEATURE + [1, 1, 4, count] + [1] * count + [0, 0]))
            self.assertEqual(office.things["d"].day, day)

    def test_places(self):
        features = [108, 2, 1, 1, 2, 1, 2, 1, 3, 1, 2, 3, 1, 2, 1, 3, 1, 4]
        self.assertEqual(decode_office(closed(features + [0, 0])).catalog.names, ("a", "b"))
        start = features + [1, 1, 4, 1, 7]
        count = len(start)
        for wrong, offset in (([1, 2, 1, 0], 1), ([2, 0, 1, 0, 0, 1, 0], 4), ([2, 1, 1, 0, 0, 1, 0], 4), ([3], 0),
                              ([1, 0, 1, 2], 3), ([1, 0, 2, 0, 0], 4), ([1, 1, 2, 2, 1], 4), ([1, 1, 2, 1, 3], 4),
                              ([1, 1, 3, 0, 2, 2], 5), ([1, 1, 4], 2), ([1, 0, 3], 2), ([2, 1, 1, 0, 2, 1, 0], 4)):
            self.check_offset(start + wrong + [0, 0, 0], count + offset)
        office = decode_office(closed(start + [2, 0, 1, 1, 1, 2, 0, 2, 0]))
        self.assertEqual([office.things["d"].note[name] for name in "ab"], [("c",), ("b", "d")])

    def test_labels(self):
        thing, claim = [1, 7, 0], [1, 7, 0, 1, 1, 0]
        self.check_items([2, 1, 4] + thing + [1, 4] + thing + [0], 16)
        self.check_items([2, 2, 4, 5] + thing + [2, 4, 4] + thing + [0], 18)
        self.check_items([2, 2, 4, 5] + thing + [1, 4] + thing + [0], 17)
        self.check_items([0, 2, 1, 4] + claim + [1, 4] + claim, 20)
        self.check_items([0, 2, 1, 4] + claim + [3, 3, 26, 26] + claim, 22)
        self.check_items([1, 1, 4] + thing + [1, 1, 4] + claim, 17)
        self.check_items([1, 2, 4, 4] + thing + [2, 1, 4] + claim + [2, 4, 4] + claim, 27)
        office = decode_office(closed(FEATURE + [2, 1, 4] + thing + [2, 4, 1] + thing + [1, 1, 1] + claim))
        self.assertEqual((list(office.things), list(office.claims)), (["d", "da"], ["a"]))
        # A letter that is none comes before a label that does not ascend.
        self.check_items([2, 1, 4] + thing + [2, 1, 27] + thing + [0], 17)


class LaterErrorsTest(CodecCase):
    def check_later(self, items, error, *attributes):
        self.assertEqual(plain_decoded(closed(items)), (error, list(attributes)))
        self.check_error(closed(items), error, list(attributes))
        self.check_offset(items + [(plain_sum(items) + 1) % 251], len(items))
        self.check_offset(closed(items) + [0], len(items) + 1)

    def test_invalid_catalogs(self):
        self.check_later([108, 1, 1, 1, 2, 1, 3, 1, 2, 0, 0], InvalidCatalog, 0)
        self.check_later([108, 1, 1, 1, 2, 1, 2, 1, 2, 0, 0], InvalidCatalog, 0)
        self.check_later([108, 2, 1, 1, 2, 1, 2, 1, 3, 1, 1, 2, 1, 2, 1, 3, 0, 0], InvalidCatalog, 1)
        self.check_later([108, 2, 1, 1, 2, 1, 2, 1, 3, 1, 2, 3, 1, 2, 1, 4, 1, 3, 0, 0], InvalidCatalog, 1)
        self.check_later([108, 2, 1, 1, 2, 1, 2, 1, 3, 1, 1, 2, 1, 2, 1, 3, 1, 1, 4, 1, 7, 2, 0, 1, 1, 1, 1, 0, 0],
                         InvalidCatalog, 1)

    def test_invalid_entries(self):
        late = [8] + list((10 ** 18 + 1).to_bytes(8, "big"))
        for day in (late, [8] + [255] * 8, [9] + [255] * 9, [9, 1] + [0] * 8):
            self.check_later(FEATURE + [1, 1, 4] + day + [0, 0], InvalidEntry, "day")
            self.check_later(FEATURE + [0, 1, 1, 4] + day + [3, 1, 0, 0], InvalidEntry, "day")
        for slips in (3, 4, 255):
            self.check_later(FEATURE + [0, 1, 1, 4, 1, 0, slips, 1, 1, 0], InvalidEntry, "slips")
            self.check_later(FEATURE + [0, 1, 1, 4, 1, 0, slips, 1, 0, 0], InvalidEntry, "slips")
        for worth in ([1, 0], [4] + list((10 ** 9 + 1).to_bytes(4, "big")), [9] + [255] * 9):
            self.check_later(FEATURE + [0, 1, 1, 4, 1, 0, 2] + worth + [0], InvalidEntry, "worth")
        self.check_later(FEATURE + [1, 1, 4] + late + [0, 1, 1, 5, 1, 0, 3, 1, 1, 0], InvalidEntry, "day")
        self.check_later(FEATURE + [0, 2, 1, 4, 1, 0, 3, 1, 1, 0, 1, 5] + late + [0, 1, 1, 0], InvalidEntry, "slips")

    def test_catalogs_come_before_entries(self):
        self.check_later([108, 1, 1, 1, 2, 1, 3, 1, 2, 0, 1, 1, 4, 1, 0, 3, 1, 0, 0], InvalidCatalog, 0)


if __name__ == "__main__":
    unittest.main()
