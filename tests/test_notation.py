"""Point 27: the texts of offices."""

import unittest
from random import Random

from helpers import checked, drawn_note, drawn_offices, frozen, told_attributes
from lostdesk.catalogs import Catalog
from lostdesk.errors import DeskError, InvalidCatalog, InvalidEntry, InvalidOffice, InvalidText
from lostdesk.notation import format_office, parse_office
from lostdesk.notes import Note
from lostdesk.offices import Claim, Office, Thing
from reading import changed_texts, first_wrong, office_word

FEATURES = "feature color blue green red\nfeature size big small\nfeature kind bag cap"
THINGS = "thing bag 3\nis color green red\nis kind cap\nthing hat 50"
CLAIMS = "claim ann 2 1 9\nis size big\nclaim bo 0 0 1\nis color blue\nis size small\nis kind bag"
TEXT = "\n".join([FEATURES, THINGS, CLAIMS])
STRANGE = ["", "feature", "thing", "claim", "is", "color", "kind", "blue", "red", "big", "bag", "hat", "ann", "zoo",
           "A", "0", "7", "00", "07", "1234567890123456789", "12345678901234567890", "+1", "-1", "1.0", "1_0", "ninechars",
           "eightltr", "b\u00e4r", "\u0430", "\u0663", "\u00b2", "x1", "Bag", "bag\r", "bag\t", "\u00a0", "odd"]


def plain_rows(office):
    """Return the rows of the text of an office."""
    rows = []
    for name, values in office.catalog.features:
        rows.append("feature " + name + "".join(" " + value for value in values))
    entries = [("thing", label, thing, [thing.day]) for label, thing in office.things.items()]
    entries += [("claim", label, claim, [claim.day, claim.slips, claim.worth])
                for label, claim in office.claims.items()]
    for kind, label, entry, numbers in entries:
        rows.append(" ".join([kind, label] + [str(number) for number in numbers]))
        for name, values in office.catalog.features:
            if len(entry.note[name]) < len(values):
                rows.append("is " + name + "".join(" " + value for value in entry.note[name]))
    return rows


def plain_parsed(text):
    """Return the office of a text whose words are all right, or the error that it must raise and its attributes."""
    rows = [line.split(" ") for line in text.split("\n")]
    features = [row for row in rows if row[0] == "feature"]
    for index, row in enumerate(features):
        if index == 6 or not 4 <= len(row) <= 10:
            return InvalidCatalog, [index]
    catalog = Catalog(tuple((row[1], tuple(row[2:])) for row in features))
    entries = []
    for row in rows:
        if row[0] in ("thing", "claim"):
            limits = [("day", 0, 10 ** 18), ("slips", 0, 2), ("worth", 1, 10 ** 9)]
            for number, (part, least, most) in zip(row[2:], limits):
                if not least <= int(number) <= most:
                    return InvalidEntry, [part]
            entries.append((row[0], row[1], [int(number) for number in row[2:]], {}))
        if row[0] == "is":
            entries[-1][3][row[1]] = tuple(row[2:])
    things = {label: Thing(Note(catalog, told), *numbers) for kind, label, numbers, told in entries if kind == "thing"}
    claims = {label: Claim(Note(catalog, told), *numbers) for kind, label, numbers, told in entries if kind == "claim"}
    for part, labels in (("things", list(things)), ("claims", list(claims))):
        if len(labels) > 8:
            return InvalidOffice, [labels[8], part]
    return Office(catalog, things, claims)


def large_office():
    """Return an office in which all is as large as can be."""
    letters = "abcdefgh"
    catalog = Catalog(tuple((letter * 8, tuple("valued" + letter + other for other in letters)) for letter in "fbdcea"))
    random = Random(5)
    things = {"t" + letter: Thing(drawn_note(random, catalog), 10 ** 18 - place)
              for place, letter in enumerate(letters)}
    claims = {"c" + letter: Claim(drawn_note(random, catalog), 10 ** 18 - place, place % 3, 10 ** 9 - place)
              for place, letter in enumerate(letters)}
    return Office(catalog, things, claims)


class NotationCase(unittest.TestCase):
    def check_text(self, text):
        """Compare with what is read word by word; return the kind of the outcome."""
        wrong = first_wrong(text, office_word)
        if wrong is not None:
            self.check_wrong(text, *wrong)
            return InvalidText
        wanted = plain_parsed(text)
        if isinstance(wanted, Office):
            self.assertEqual(checked(self, parse_office, text), wanted, text)
            return Office
        self.check_error(text, *wanted)
        return wanted[0]

    def check_wrong(self, text, row, word):
        self.check_error(text, InvalidText, [row, word])

    def check_error(self, text, error, attributes):
        """Check the attributes, in the order of their names."""
        with self.subTest(text=text):
            self.assertEqual(told_attributes(self, error, parse_office, text), attributes)


class FormatTest(NotationCase):
    def test_drawn_offices_row_by_row_and_back(self):
        for office in drawn_offices(150) + [large_office()]:
            text = checked(self, format_office, office)
            self.assertEqual(text.split("\n"), plain_rows(office))
            self.assertEqual(checked(self, parse_office, text), office)
            self.assertEqual(format_office(parse_office(text)), text)

    def test_each_kind_of_row(self):
        office = parse_office(TEXT)
        self.assertEqual(format_office(office), TEXT)
        self.assertEqual(office.catalog.names, ("color", "size", "kind"))
        self.assertEqual((list(office.things), list(office.claims)), (["bag", "hat"], ["ann", "bo"]))
        self.assertEqual([office.things["bag"].note[name] for name in office.catalog.names],
                         [("green", "red"), ("big", "small"), ("cap",)])
        self.assertEqual(office.claims["ann"], Claim(Note(office.catalog, {"size": ("big",)}), 2, 1, 9))
        self.assertEqual((office.things["hat"].day, office.things["hat"].note.description_count), (50, 12))

    def test_an_office_without_things_and_claims(self):
        self.assertEqual(parse_office(FEATURES), Office(parse_office(FEATURES).catalog, {}, {}))
        self.assertEqual(format_office(parse_office(FEATURES)), FEATURES)
        self.assertEqual(list(parse_office(FEATURES + "\nclaim ann 0 0 1").claims), ["ann"])

    def test_rows_with_all_values(self):
        text = TEXT.replace("is color green red", "is color blue green red\nis size big small")
        text = text.replace("is size big\n", "is color blue green red\nis size big\nis kind bag cap\n")
        office = parse_office(text)
        self.assertEqual(office, parse_office(TEXT.replace("is color green red\n", "")))
        self.assertEqual(format_office(office), TEXT.replace("is color green red\n", ""))


class ReadWordByWordTest(NotationCase):
    def test_one_word_changed_left_out_put_in_doubled(self):
        kinds = {self.check_text(text) for text in changed_texts(TEXT, STRANGE)}
        self.assertEqual(kinds, {InvalidText, InvalidEntry, Office})

    def test_rows_left_out_doubled_exchanged(self):
        rows = TEXT.split("\n")
        for one in range(len(rows)):
            self.check_text("\n".join(rows[:one] + rows[one + 1:]))
            self.check_text("\n".join(rows[:one + 1] + rows[one:]))
            self.check_text("\n".join(rows[one:]))
            self.check_text("\n".join(rows[:one]))
            for other in range(one):
                lines = list(rows)
                lines[one], lines[other] = lines[other], lines[one]
                self.check_text("\n".join(lines))
                self.check_text("\n".join(rows[:other] + [rows[one]] + rows[other:one] + rows[one + 1:]))

    def test_drawn_changes_of_drawn_offices(self):
        for seed, office in enumerate(drawn_offices(60)):
            random = Random(seed)
            text = format_office(office)
            for _ in range(25):
                lines = [line.split(" ") for line in text.split("\n")]
                for _ in range(random.choice([1, 1, 2, 3])):
                    line = random.choice(lines)
                    place = random.randint(0, len(line) - 1) if line else 0
                    line[place:place + random.randint(0, 1)] = [random.choice(STRANGE + sum(lines, []))]
                    if random.random() < 0.2:
                        lines.insert(random.randint(0, len(lines)), list(random.choice(lines)))
                self.check_text("\n".join(" ".join(line) for line in lines))


class WrongWordTest(NotationCase):
    def check_rows(self, rows, row, word):
        """Check texts that begin with the rows of the features, and then have these."""
        text = FEATURES + "\n" + "\n".join(rows)
        self.assertEqual(first_wrong(text, office_word), (row, word))
        self.check_wrong(text, row, word)

    def test_line_feeds(self):
        for text, row in (("", 0), ("\n", 0), ("\n" + TEXT, 0), (TEXT + "\n", 13)):
            self.check_wrong(text, row, 0)
        self.check_wrong(TEXT.replace("\nt", "\n\nt", 1), 3, 0)
        self.check_wrong("feature a b c\n", 1, 0)
        self.check_wrong(TEXT.replace("\n", "\r\n"), 0, 4)

    def test_spaces(self):
        self.check_wrong(" " + TEXT, 0, 0)
        self.check_wrong(" ", 0, 0)
        self.check_wrong("feature  color blue red", 0, 1)
        self.check_wrong("feature color  blue red", 0, 2)
        self.check_wrong("feature color blue red ", 0, 4)
        self.check_wrong("feature ", 0, 1)
        self.check_rows(["thing bag 3 "], 3, 3)
        self.check_rows(["thing bag  3"], 3, 2)
        self.check_rows([" thing bag 3"], 3, 0)
        self.check_rows(["thing bag 3", "is color blue "], 4, 3)
        self.check_rows(["claim ann 3 0 1 "], 3, 5)

    def test_missing_words(self):
        self.check_wrong("feature", 0, 1)
        for row, word in (("thing", 1), ("thing bag", 2), ("claim", 1), ("claim ann", 2), ("claim ann 1", 3),
                          ("claim ann 1 0", 4)):
            self.check_rows([row], 3, word)
        self.check_rows(["thing bag 3", "is"], 4, 1)
        self.check_rows(["thing bag 3", "is color"], 4, 2)

    def test_superfluous_words(self):
        self.check_rows(["thing bag 3 4 5"], 3, 3)
        self.check_rows(["thing bag 3 x"], 3, 3)
        self.check_rows(["claim ann 3 0 1 1"], 3, 5)

    def test_first_words(self):
        for word in ("thing", "claim", "is", "Feature", "features", "feature\t", "color", "7"):
            self.check_wrong(word + " color blue red", 0, 0)
        self.check_rows(["is color blue"], 3, 0)
        self.check_rows(["thing bag 3", "feature shape odd round"], 4, 0)
        self.check_rows(["thing bag 3", "is color red", "feature shape odd round"], 5, 0)
        self.check_rows(["claim ann 3 0 1", "thing bag 3"], 4, 0)
        self.check_rows(["claim ann 3 0 1", "is color red", "thing bag 3"], 5, 0)
        self.check_rows(["claim ann 3 0 1", "feature shape odd round"], 4, 0)
        self.check_rows(["thing bag 3", "things hat 3"], 4, 0)

    def test_features(self):
        for name in ("Color", "c0lor", "ninechars", "caf\u00e9", ""):
            self.check_wrong(f"feature {name} blue red", 0, 1)
            self.check_wrong(f"feature color blue {name} red", 0, 3)
        self.check_wrong("feature color blue red\nfeature color big small", 1, 1)
        self.check_wrong("feature a b c\nfeature b c d\nfeature a b c", 2, 1)
        self.check_wrong("feature color red blue", 0, 3)
        self.check_wrong("feature color blue blue", 0, 3)
        self.check_wrong("feature color blue red green", 0, 4)

    def test_notes(self):
        for name in ("shape", "", "Color", "col", "bag"):
            self.check_rows(["thing bag 3", f"is {name} red"], 4, 1)
        self.check_rows(["thing bag 3", "is size big", "is color red"], 5, 1)
        self.check_rows(["thing bag 3", "is size big", "is size small"], 5, 1)
        self.check_rows(["thing bag 3", "is kind bag", "thing hat 3", "is size big", "is color red"], 7, 1)
        self.check_rows(["claim ann 3 0 1", "is color big"], 4, 2)
        self.check_rows(["claim ann 3 0 1", "is color blue odd"], 4, 3)
        self.check_rows(["claim ann 3 0 1", "is color red green"], 4, 3)
        self.check_rows(["claim ann 3 0 1", "is color red red"], 4, 3)
        self.check_rows(["claim ann 3 0 1", "is color blue green red red"], 4, 5)
        self.check_wrong("feature color\nthing bag 3\nis color blue", 2, 2)

    def test_a_note_begins_with_each_entry(self):
        rows = ["thing bag 3", "is kind bag", "thing hat 3", "is color red", "claim ann 3 0 1", "is color red"]
        office = parse_office("\n".join([FEATURES] + rows))
        self.assertEqual(office.things["hat"].note, office.claims["ann"].note)

    def test_labels(self):
        for label in ("", "Bag", "b9", "ninechars", "b\u00e4g"):
            self.check_rows([f"thing {label} 3"], 3, 1)
            self.check_rows([f"claim {label} 3 0 1"], 3, 1)
        self.check_rows(["thing bag 3", "thing bag 3"], 4, 1)
        self.check_rows(["thing bag 3", "thing ann 3"], 4, 1)
        self.check_rows(["thing ann 3", "thing bag 3", "thing ann 3"], 5, 1)
        self.check_rows(["claim bag 3 0 1", "claim bag 3 0 1"], 4, 1)
        self.check_rows(["claim bag 3 0 1", "claim ann 3 0 1"], 4, 1)
        self.check_rows(["thing bag 3", "claim bag 3 0 1"], 4, 1)
        self.check_rows(["thing bag 3", "claim ann 3 0 1", "claim bag 3 0 1"], 5, 1)
        self.assertEqual(list(parse_office(FEATURES + "\nthing bag 3\nclaim ann 3 0 1\nclaim hat 3 0 1").claims),
                         ["ann", "hat"])

    def test_numbers(self):
        for word in ("", "00", "01", "007", "+1", "-1", "-0", "1.0", "1e3", "0x1", "1_0", "a", "\u0663", "\u00b2", "1 ",
                     "10000000000000000000", "00000000000000000001"):
            self.check_rows([f"thing bag {word}"], 3, 3 if word == "1 " else 2)
            for place in (2, 3, 4):
                words = ["claim", "ann", "1", "1", "1"]
                words[place] = word
                self.check_rows([" ".join(words)], 3, place + (word == "1 "))
        for number in (0, 9, 10, 10 ** 18):
            self.assertEqual(parse_office(f"{FEATURES}\nthing bag {number}").things["bag"].day, number)

    def test_the_first_of_several(self):
        self.check_wrong("feature color blue red\nthing Bag 03\nis color odd", 1, 1)
        self.check_wrong("feature color blue red\nthing bag 03 x\nis", 1, 2)
        self.check_wrong("feature color blue red\nthing bag 3\nis odd Odd x\nthing", 2, 1)


class LaterErrorsTest(NotationCase):
    def test_invalid_catalogs(self):
        self.check_error("feature color", InvalidCatalog, [0])
        self.check_error("feature color blue", InvalidCatalog, [0])
        self.check_error("feature color a b c d e f g h i", InvalidCatalog, [0])
        self.check_error(FEATURES + "\nfeature shape odd", InvalidCatalog, [3])
        rows = [f"feature {letter} x y" for letter in "abcdefgh"]
        self.check_error("\n".join(rows[:7]), InvalidCatalog, [6])
        self.check_error("\n".join(rows), InvalidCatalog, [6])
        self.check_error("\n".join(rows[:7] + ["thing bag 3", "is g x"]), InvalidCatalog, [6])
        self.check_error("\n".join(rows[:4] + ["feature i x"] + rows[4:7]), InvalidCatalog, [4])
        self.assertEqual(len(parse_office("\n".join(rows[:6])).catalog), 6)

    def test_invalid_entries(self):
        large = 10 ** 18
        for number in (large + 1, 9999999999999999999):
            self.check_error(f"{FEATURES}\nthing bag {number}", InvalidEntry, ["day"])
            self.check_error(f"{FEATURES}\nclaim ann {number} 3 0", InvalidEntry, ["day"])
            self.check_error(f"{FEATURES}\nclaim ann 1 {number} 0", InvalidEntry, ["slips"])
            self.check_error(f"{FEATURES}\nclaim ann 1 2 {number}", InvalidEntry, ["worth"])
        self.check_error(f"{FEATURES}\nclaim ann {large} 3 0", InvalidEntry, ["slips"])
        self.check_error(f"{FEATURES}\nclaim ann {large} 2 0", InvalidEntry, ["worth"])
        self.check_error(f"{FEATURES}\nclaim ann {large} 2 1000000001", InvalidEntry, ["worth"])
        claim = parse_office(f"{FEATURES}\nclaim ann {large} 2 1000000000").claims["ann"]
        self.assertEqual((claim.day, claim.slips, claim.worth), (large, 2, 10 ** 9))
        self.check_error(f"{FEATURES}\nthing bag {large + 1}\nclaim ann 1 3 1", InvalidEntry, ["day"])
        self.check_error(f"{FEATURES}\nclaim ann 1 3 1\nclaim bo {large + 1} 0 1", InvalidEntry, ["slips"])

    def test_a_ninth_thing_and_a_ninth_claim(self):
        things = [f"thing t{letter} 3" for letter in "abcdefghij"]
        claims = [f"claim c{letter} 3 0 1" for letter in "abcdefghij"]
        for count in (9, 10):
            self.check_error("\n".join([FEATURES] + things[:count]), InvalidOffice, ["ti", "things"])
            self.check_error("\n".join([FEATURES] + claims[:count]), InvalidOffice, ["ci", "claims"])
            self.check_error("\n".join([FEATURES] + things[:count] + claims), InvalidOffice, ["ti", "things"])
        self.assertEqual(len(parse_office("\n".join([FEATURES] + things[:8] + claims[:8])).claims), 8)

    def test_several_in_their_order(self):
        things = [f"thing t{letter} 3" for letter in "abcdefghi"]
        wrong = ["claim ann 3 3 0"]
        self.check_error("\n".join([FEATURES] + things + wrong), InvalidEntry, ["slips"])
        self.check_error("\n".join([FEATURES, "feature shape odd"] + things + wrong), InvalidCatalog, [3])
        self.check_wrong("\n".join([FEATURES, "feature shape odd"] + things + wrong + ["is color odd"]), 14, 2)
        self.check_wrong("\n".join([FEATURES, "feature shape odd"] + things + ["claim ann 3 3 00"]), 13, 4)
        self.check_wrong("feature color blue\nthing bag 9999999999999999999\nclaim bag 0 9 0", 2, 1)
        self.check_wrong("feature color blue\nthing bag 9999999999999999999\n", 2, 0)

    def test_drawn_texts_with_something_more(self):
        kinds = set()
        for seed in range(250):
            random = Random(seed)
            rows = []
            for name in "abcdefg"[:random.choice([1, 3, 6, 6, 7])]:
                rows.append(" ".join(["feature", name, *"pqrstuvwx"[:random.choice([2] * 9 + [1, 9])]]))
            for label in "abcdefghi"[:random.choice([0, 2, 8, 9])]:
                rows.append(f"thing t{label} {random.choice([0, 5] * 9 + [10 ** 18, 10 ** 18 + 1])}")
            for label in "abcdefghi"[:random.choice([0, 2, 8, 9])]:
                day, slips = random.choice([0, 5] * 9 + [10 ** 18 + 1]), random.choice([0, 2] * 9 + [3])
                rows.append(f"claim c{label} {day} {slips} {random.choice([1, 10 ** 9] * 9 + [0])}")
            kinds.add(self.check_text("\n".join(rows)))
        self.assertEqual(kinds, {InvalidCatalog, InvalidEntry, InvalidOffice, Office})

    def test_errors_are_desk_errors(self):
        for text in ("", "feature color", TEXT + " ", TEXT.replace("50", "9999999999999999999")):
            self.assertRaises(DeskError, parse_office, text)


class ChangedByTheCallerTest(unittest.TestCase):
    def test_later_answers(self):
        office = parse_office(TEXT)
        before = frozen(office)
        office.things.clear()
        office.claims.clear()
        self.assertEqual((frozen(office), format_office(office)), (before, TEXT))
        self.assertEqual(frozen(parse_office(TEXT)), before)


if __name__ == "__main__":
    unittest.main()
