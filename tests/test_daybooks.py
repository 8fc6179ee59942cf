"""Point 29: daybooks, against a desk that is led in the test."""

import unittest
from fractions import Fraction
from random import Random

from desk_helpers import state
from helpers import frozen, greatest_matches
from lostdesk.catalogs import Catalog
from lostdesk.daybooks import Daybook
from lostdesk.desks import Desk
from lostdesk.errors import DaybookError, DeskError
from lostdesk.notes import Note
from lostdesk.offices import Claim, Thing
from reading import changed_texts, feature_word, first_wrong, is_number, is_word

FEATURES = "feature color blue red\nfeature size big small"
CATALOG = Catalog((("color", ("blue", "red")), ("size", ("big", "small"))))
NOTE = Note(CATALOG, {})
FORMS = {"find": "w0", "lose": "w000", "hand": "ww", "narrow": "www", "drop": "w", "most": "", "judge": "ww",
         "share": "ww", "open": ""}
ROWS = ["find bag 3", "lose ann 2 0 1", "lose bo 3 1 9", "find hat 4", "narrow hat color red", "judge ann bag", "most",
        "share bo hat", "hand ann bag", "open", "drop hat", "open", "most"]
STRANGE = ["", "feature", "find", "lose", "is", "thing", "open", "most", "color", "blue", "bag", "ann", "zoo", "A", "0",
           "3", "00", "07", "1000000000000000000", "1000000000000000001", "12345678901234567890", "+1", "x1",
           "ninechars", "\u00e4", "\u0663", "bag\r"]


def book_of(rows):
    """Return the text of a daybook with the features and then these rows."""
    return "\n".join([FEATURES] + rows)


def book_word(rows, before, word):
    """Tell whether a word, or None for the end, can stand behind those before it in a row behind other rows."""
    if len(rows) == 200:
        return False
    if not before:
        others = [row for row in rows if row[0] != "feature"]
        return word == "feature" and not others or word in FORMS and len(rows) > 0
    if before[0] == "feature":
        return feature_word(rows, before, word)
    form = FORMS[before[0]]
    if len(before) > len(form):
        return word is None
    return is_word(word) if form[len(before) - 1] == "w" else is_number(word)


def plain_answer(desk, name, *labels):
    """Return the line of a question, by the list of all greatest matches."""
    office = desk.office()
    found = greatest_matches(office)
    if name == "most":
        return str(len(found[0]))
    if name == "open":
        served = {claim for pairs in found for claim, _ in pairs}
        return " ".join(sorted(set(office.claims) - served)) or "-"
    claim, thing = labels
    if claim not in office.claims or thing not in office.things:
        raise DeskError()
    share = Fraction(len([pairs for pairs in found if (claim, thing) in pairs]), len(found))
    if name == "share":
        return f"{share.numerator}/{share.denominator}"
    return {0: "never", 1: "surely"}.get(share, "perhaps")


def plain_book(text):
    """Return a desk after all entries and the list of all answers, or the row and the word of the error."""
    wrong = first_wrong(text, book_word)
    if wrong is not None:
        return wrong
    rows = [line.split(" ") for line in text.split("\n")]
    features = [(row[1], tuple(row[2:])) for row in rows if row[0] == "feature"]
    for index, (_, values) in enumerate(features):
        if index == 6 or not 2 <= len(values) <= 8:
            return index, 0
    desk, answers = Desk(Catalog(tuple(features))), []
    note = Note(desk.office().catalog, {})
    for index, (name, *told) in enumerate(rows[len(features):], len(features)):
        try:
            if name == "find":
                desk.find(told[0], Thing(note, int(told[1])))
            elif name == "lose":
                desk.lose(told[0], Claim(note, *[int(number) for number in told[1:]]))
            elif name in ("hand", "narrow", "drop"):
                getattr(desk, name)(*told)
            else:
                answers.append(plain_answer(desk, name, *told))
        except DeskError:
            return index, 0
    return desk, answers


def drawn_row(random, things, claims):
    """Return a row of an entry or a question, mostly one that raises no error."""
    name = random.choice(["find", "lose", "find", "lose", "narrow", "narrow", "hand", "drop", "most", "judge", "share",
                          "open", "judge", "share"])
    thing, claim = random.choice(sorted(things) or ["a"]), random.choice(sorted(claims) or ["p"])
    if name == "find":
        thing = random.choice("abcd")
        things.add(thing)
        return f"find {thing} {random.choice([0, 3, 5, 10 ** 18])}"
    if name == "lose":
        claim = random.choice("pqrs")
        claims.add(claim)
        return f"lose {claim} {random.choice([0, 1, 4])} {random.randint(0, 2)} {random.choice([1, 9, 10 ** 9])}"
    if name == "narrow":
        feature = random.choice(["color blue", "color red", "size big", "size small"])
        return f"narrow {random.choice([thing, claim])} {feature}"
    if name == "drop":
        label = random.choice([thing, claim])
        things.discard(label)
        claims.discard(label)
        return f"drop {label}"
    if name == "hand":
        things.discard(thing)
        claims.discard(claim)
    return name if name in ("most", "open") else f"{name} {claim} {thing}"


def drawn_book(random, count):
    """Return the rows of a daybook that raises no error."""
    rows, things, claims = [], set(), set()
    while len(rows) < count:
        kept = set(things), set(claims)
        row = drawn_row(random, things, claims)
        if isinstance(plain_book(book_of(rows + [row]))[0], Desk):
            rows.append(row)
        else:
            things, claims = kept
    return rows


class DaybookCase(unittest.TestCase):
    def check_book(self, text):
        """Compare with a desk that is led in the test; return how it ended."""
        first, second = plain_book(text)
        if not isinstance(first, Desk):
            self.check_error(text, first, second)
            return "wrong" if first_wrong(text, book_word) else "raises"
        for _ in range(2):
            book = Daybook(text)
            for _ in range(2):
                self.assertEqual((book.results, type(book.results)), ("\n".join(second), str), text)
                self.assertEqual(state(book.desk()), state(first))
        return "right"

    def check_error(self, text, row, word):
        self.assertEqual(plain_book(text), (row, word), text)
        for _ in range(2):
            with self.subTest(text=text), self.assertRaises(DaybookError) as caught:
                Daybook(text)
            self.assertIs(type(caught.exception), DaybookError)
            self.assertEqual(vars(caught.exception), {"row": row, "word": word})

    def check_rows(self, rows, row, word):
        """Check a daybook with two features whose rows behind them are these; rows count from the first of these."""
        self.check_error(book_of(rows), row + 2, word)


class ResultsTest(DaybookCase):
    def test_drawn_books(self):
        answers = set()
        for seed in range(60):
            text = book_of(drawn_book(Random(seed), 20))
            self.assertEqual(self.check_book(text), "right")
            answers.update(Daybook(text).results.split("\n"))
        self.assertLessEqual({"0", "1", "2", "surely", "perhaps", "never", "-", "0/1", "1/1", "1/2"}, answers)

    def test_each_kind_of_row(self):
        book = Daybook(book_of(ROWS))
        self.assertEqual(book.results, "perhaps\n2\n1/2\n-\nbo\n0")
        office = book.desk().office()
        self.assertEqual((office.catalog, office.things, office.claims), (CATALOG, {}, {"bo": Claim(NOTE, 3, 1, 9)}))
        self.assertEqual(book.desk().history,
                         [("find", "bag", Thing(NOTE, 3)), ("lose", "ann", Claim(NOTE, 2, 0, 1)),
                          ("lose", "bo", Claim(NOTE, 3, 1, 9)), ("find", "hat", Thing(NOTE, 4)),
                          ("narrow", "hat", "color", "red"), ("hand", "ann", "bag"), ("drop", "hat")])

    def test_questions_tell_of_the_desk_at_their_row(self):
        rows = ["open", "most", "lose bo 2 0 1", "open", "lose ann 9 0 1", "open", "find bag 3", "open", "most",
                "share bo bag", "share ann bag", "judge bo bag", "judge ann bag", "find hat 2", "share bo bag"]
        self.assertEqual(Daybook(book_of(rows)).results,
                         "-\n0\nbo\nann bo\nann\n1\n1/1\n0/1\nsurely\nnever\n1/2")

    def test_shares_in_lowest_terms(self):
        rows = ["find a 1", "find b 1", "find c 1", "find d 1", "lose p 1 0 1", "lose q 1 0 1", "share p a"]
        self.assertEqual(Daybook(book_of(rows)).results, "1/4")
        self.assertEqual(Daybook(book_of(rows[:4] + ["lose p 1 0 1", "hand p a", "drop b", "drop c"] + rows[4:5]
                                         + ["share p d"])).results, "1/1")

    def test_no_questions(self):
        for rows in ([], ["find bag 3"], ["find bag 3", "drop bag"]):
            self.assertEqual(Daybook(book_of(rows)).results, "")
        self.assertEqual(state(Daybook(FEATURES).desk()), state(Desk(CATALOG)))

    def test_no_entries(self):
        self.assertEqual(Daybook("feature a b c\nmost\nopen").results, "0\n-")

    def test_each_desk_is_new(self):
        book = Daybook(book_of(ROWS))
        before, results = state(book.desk()), book.results
        desk = book.desk()
        self.assertIsInstance(desk, Desk)
        self.assertTrue(desk.undo())
        desk.mark("x")
        desk.lose("zoe", Claim(NOTE, 3))
        desk.office().claims.clear()
        desk.history.clear()
        self.assertEqual((state(book.desk()), book.results), (before, results))
        self.assertFalse(book.desk().redo())
        desk, count = book.desk(), 0
        while desk.undo():
            count += 1
        self.assertEqual((count, state(desk), state(book.desk())), (7, state(Desk(CATALOG)), before))

    def test_the_same_text_twice(self):
        text = book_of(ROWS)
        one, other = Daybook(text), Daybook(text)
        one.desk().drop("bo")
        self.assertEqual((frozen(one.results), state(one.desk())), (frozen(other.results), state(other.desk())))


class WrongWordTest(DaybookCase):
    def test_each_word_changed_left_out_put_in(self):
        kinds = {self.check_book(text) for text in changed_texts(book_of(ROWS), STRANGE)}
        self.assertEqual(kinds, {"wrong", "raises", "right"})

    def test_rows_left_out_doubled_exchanged(self):
        rows = book_of(ROWS).split("\n")
        for one in range(len(rows)):
            for lines in (rows[:one] + rows[one + 1:], rows[:one + 1] + rows[one:], rows[one:], rows[:one]):
                self.check_book("\n".join(lines))
            for other in range(one):
                lines = list(rows)
                lines[one], lines[other] = lines[other], lines[one]
                self.check_book("\n".join(lines))

    def test_line_feeds_and_spaces(self):
        for text in ("", "\n", " ", "\n" + FEATURES, " " + FEATURES):
            self.check_error(text, 0, 0)
        for rest, row, word in (("\n", 2, 0), ("\n\nmost", 2, 0), ("\nmost ", 2, 1), ("\n most", 2, 0),
                                ("\nfind  bag 3", 2, 1), (" ", 1, 4)):
            self.check_error(FEATURES + rest, row, word)

    def test_missing_and_superfluous_words(self):
        words = {"w": "bag", "0": "1"}
        for name, form in FORMS.items():
            row = [name] + [words[one] for one in form]
            for count in range(1, len(row)):
                self.check_rows(["find bag 3", " ".join(row[:count])], 1, count)
            for word in ("bag", "1", "", "most"):
                self.check_rows(["find bag 3", " ".join(row + [word])], 1, len(row))

    def test_words_that_are_none(self):
        words = {"w": "bag", "0": "1"}
        wrong = {"w": ["Bag", "bag1", "", "ninechars", "b\u00e4g"],
                 "0": ["00", "01", "-1", "+1", "x", "", "1" * 20, "\u0663"]}
        for name, form in FORMS.items():
            for place, kind in enumerate(form):
                for word in wrong[kind]:
                    row = [name] + [words[one] for one in form]
                    row[place + 1] = word
                    self.check_rows([" ".join(row)], 0, place + 1)

    def test_first_words(self):
        for word in ("thing", "claim", "is", "mark x", "go x", "undo", "redo", "Find bag 3", "finds bag 3", "0"):
            self.check_rows([word], 0, 0)
        for text in ("find bag 3", "most", "open\n" + FEATURES, "Feature a b c"):
            self.check_error(text, 0, 0)

    def test_features_behind_entries(self):
        for row in ("find bag 3", "lose ann 2 0 1", "most", "open"):
            self.check_rows([row, "feature shape odd round"], 1, 0)
        self.check_rows(["find bag 3", "drop bag", "feature shape odd round"], 2, 0)

    def test_wrong_features(self):
        self.check_error("feature color blue red\nfeature color big small\nmost", 1, 1)
        self.check_error("feature color red blue\nmost", 0, 3)
        self.check_error("feature Color red blue\nmost", 0, 1)
        self.check_error("feature\nmost", 0, 1)

    def test_two_hundred_rows(self):
        rows = ["most"] * 197
        self.assertEqual(self.check_book(book_of(rows + ["find bag 3"])), "right")
        self.assertEqual(len(Daybook(book_of(rows + ["open"])).results.split("\n")), 198)
        for more in (["most"], ["nothing", "at all"], [""], ["feature x"], ["most"] * 50):
            self.check_rows(rows + ["most"] + more, 198, 0)
        self.check_rows(["drop bag"] + rows + ["most"], 198, 0)
        self.check_rows(["most x"] + rows + ["most"], 0, 1)
        self.check_rows(rows + ["most x", "most"], 197, 1)

    def test_wrong_words_come_first(self):
        self.check_rows(["drop bag", "most", "narrow bag color"], 2, 3)
        self.check_rows(["find bag 9999999999999999999", "drop Bag"], 1, 1)
        self.check_error("feature color blue\nfind bag 3\ndrop Bag", 2, 1)
        self.check_error("feature color blue\ndrop bag\nfeature size big small", 2, 0)


class RaisingTest(DaybookCase):
    def test_invalid_catalogs(self):
        rows = [f"feature {letter} x y" for letter in "abcdefgh"]
        for count in (7, 8):
            self.check_error("\n".join(rows[:count] + ["drop bag"]), 6, 0)
        self.assertEqual(Daybook("\n".join(rows[:6] + ["most"])).results, "0")
        for row in ("feature i", "feature i x", "feature i a b c d e f g h i"):
            self.check_error(row, 0, 0)
            self.check_error("\n".join(rows[:3] + [row] + rows[3:] + ["drop bag"]), 3, 0)

    def test_each_error_of_each_entry(self):
        before = ["find bag 3", "lose ann 4 0 1", "lose bo 2 0 1", "narrow bag color red"]
        large = 10 ** 18 + 1
        wrong = [f"find hat {large}", "find ann 3", f"lose cy {large} 0 1", "lose cy 1 3 1", "lose cy 1 0 0",
                 "lose cy 1 0 1000000001", "lose bag 1 0 1", "hand zoe bag", "hand bag bag", "hand bo hat",
                 "hand bo ann", "hand ann bag", "narrow zoe color red", "narrow bag shape red", "narrow bag color blue",
                 "narrow bag color green", "narrow bo size red", "drop zoe", "judge zoe bag", "judge bo zoe",
                 "judge bag bo", "share zoe bag", "share bo zoe", "share bag bo"]
        for row in wrong:
            self.check_rows(before + [row, "most"], 4, 0)
            self.check_rows(before + ["most", row, "drop zoe"], 5, 0)

    def test_a_ninth_thing_and_a_ninth_claim(self):
        things = [f"find t{letter} 3" for letter in "abcdefgh"]
        claims = [f"lose c{letter} 3 0 1" for letter in "abcdefgh"]
        text = book_of(things + claims + ["most", "find ta 1", "lose ca 1 0 1", "most"])
        self.assertEqual(Daybook(text).results, "8\n8")
        self.check_rows(things + claims + ["find ti 3"], 16, 0)
        self.check_rows(things + claims + ["lose ci 3 0 1"], 16, 0)

    def test_the_first_of_several(self):
        self.check_rows(["find bag 3", "judge ann bag", "drop zoe"], 1, 0)
        self.check_rows(["find bag 3", "drop zoe", "judge ann bag"], 1, 0)

    def test_drawn_books(self):
        kinds = set()
        for seed in range(80):
            random = Random(seed)
            rows = [drawn_row(random, set("abcd"), set("pqrs")) for _ in range(random.randint(1, 6))]
            if random.random() < 0.3:
                place = random.randrange(len(rows))
                rows[place] += random.choice([" ", " x", " 1"])
            kinds.add(self.check_book(book_of(drawn_book(random, 8) + rows)))
        self.assertEqual(kinds, {"wrong", "raises", "right"})


if __name__ == "__main__":
    unittest.main()
