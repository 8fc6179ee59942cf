"""Points 17 and 18: questions, and which of them to ask."""

import unittest
from itertools import product
from random import Random

from helpers import checked, drawn_offices, greatest_matches, plain_office, told_attributes
from lostdesk.catalogs import Catalog
from lostdesk.errors import InvalidAnswer, InvalidQuestion, UnknownLabel
from lostdesk.notes import Note
from lostdesk.offices import Claim, Office, Thing
from lostdesk.questions import answered, fewest_questions, next_question, possible_answers

CATALOG = Catalog((("hue", ("blue", "red", "white")), ("size", ("big", "small"))))
NOTE = Note(CATALOG, {})
RED = Note(CATALOG, {"hue": ("red",)})
COLD = Note(CATALOG, {"hue": ("blue", "white"), "size": ("big",)})
NEVER = 99


def office_behind(office, question, value):
    """Return the office behind an answer, made anew."""
    kind, label, feature = question
    things, claims = office.things, office.claims
    entry = (claims if kind == "claim" else things)[label]
    told = {name: entry.note[name] for name, _ in office.catalog.features}
    note = Note(office.catalog, {**told, feature: (value,)})
    if kind == "claim":
        claims[label] = Claim(note, entry.day, entry.slips, entry.worth)
    else:
        things[label] = Thing(note, entry.day)
    return Office(office.catalog, things, claims)


def offices_behind(office, question):
    """Return the offices behind all answers of a question."""
    kind, label, feature = question
    entry = (office.claims if kind == "claim" else office.things)[label]
    return [office_behind(office, question, value) for value in entry.note[feature]]


def wanted_next(office, questions):
    """Return what next_question is to return, by all greatest matches behind all answers."""
    left = [max(len(greatest_matches(later)) for later in offices_behind(office, question)) for question in questions]
    return left.index(min(left)) if left else None


def plain_fewest(office, questions, pair):
    """Return how many questions are to be asked, by all ways to ask; NEVER if they are not enough."""
    found = greatest_matches(office)
    if sum(pair in pairs for pairs in found) in (0, len(found)):
        return 0
    counts = [NEVER]
    for place, question in enumerate(questions):
        rest = questions[:place] + questions[place + 1:]
        counts.append(1 + max(plain_fewest(later, rest, pair) for later in offices_behind(office, question)))
    return min(min(counts), NEVER)


def all_questions(office):
    """Return all questions that can be asked."""
    names = [name for name, _ in office.catalog.features]
    found = [("claim", label, name) for label in office.claims for name in names]
    return found + [("thing", label, name) for label in office.things for name in names]


def sparse_note(random, catalog, part):
    """Return a note in which about so many percent of the features have one value."""
    told = {name: (random.choice(values),) for name, values in catalog.features if random.randrange(100) < part}
    return Note(catalog, told)


def telling_case(random):
    """Return an office of which answers tell much, and a list of up to four questions with several answers."""
    features = (("hue", ("blue", "red", "white")), ("size", ("big", "small")), ("wear", ("new", "old")))
    catalog = Catalog(features[:random.randint(1, 3)])
    things = {"t" + letter: Thing(sparse_note(random, catalog, 80), 3) for letter in "abc"[:random.randint(1, 3)]}
    claims = {"c" + letter: Claim(sparse_note(random, catalog, 30), 2) for letter in "abc"[:random.randint(1, 3)]}
    office = Office(catalog, things, claims)
    found = [question for question in all_questions(office) if len(offices_behind(office, question)) > 1]
    return office, random.sample(found, min(len(found), 4))


class AnswersTest(unittest.TestCase):
    def setUp(self):
        things = {"cap": Thing(COLD, 3), "hat": Thing(NOTE, 5)}
        self.office = Office(CATALOG, things, {"ann": Claim(RED, 2, 1, 7), "bob": Claim(NOTE, 4, 2, 9)})

    def test_possible_answers(self):
        wanted = {("thing", "cap", "hue"): ("blue", "white"), ("thing", "cap", "size"): ("big",),
                  ("thing", "hat", "hue"): ("blue", "red", "white"), ("claim", "ann", "hue"): ("red",),
                  ("claim", "ann", "size"): ("big", "small"), ("claim", "bob", "size"): ("big", "small")}
        for question, values in wanted.items():
            found = checked(self, possible_answers, self.office, question)
            self.assertEqual(found, values)
            self.assertIsInstance(found, tuple)

    def test_a_thing_that_is_asked(self):
        later = checked(self, answered, self.office, ("thing", "cap", "hue"), "white")
        white = Note(CATALOG, {"hue": ("white",), "size": ("big",)})
        self.assertEqual(later, self.office.with_thing("cap", Thing(white, 3)))

    def test_a_claim_that_is_asked(self):
        later = checked(self, answered, self.office, ("claim", "ann", "size"), "small")
        small = Note(CATALOG, {"hue": ("red",), "size": ("small",)})
        self.assertEqual(later, self.office.with_claim("ann", Claim(small, 2, 1, 7)))

    def test_what_is_told_already(self):
        self.assertEqual(answered(self.office, ("claim", "ann", "hue"), "red"), self.office)
        self.assertEqual(answered(self.office, ("thing", "cap", "size"), "big"), self.office)

    def test_drawn_offices(self):
        for office in drawn_offices(40):
            for question in all_questions(office):
                values = checked(self, possible_answers, office, question)
                later = [checked(self, answered, office, question, value) for value in values]
                self.assertEqual(later, offices_behind(office, question))

    def test_other_values(self):
        for question, value in ((("thing", "cap", "hue"), "red"), (("thing", "cap", "size"), "small"),
                                (("claim", "ann", "hue"), "blue"), (("thing", "hat", "hue"), "big"),
                                (("thing", "hat", "hue"), "green"), (("thing", "hat", "hue"), "")):
            with self.subTest(question=question, value=value):
                self.assertEqual(len(told_attributes(self, InvalidAnswer, answered, self.office, question, value)), 0)

    def test_wrong_questions(self):
        for question in (("claim", "zz", "hue"), ("thing", "zz", "hue"), ("claim", "cap", "hue"),
                         ("thing", "ann", "hue"), ("claim", "ann", "form"), ("thing", "hat", "form"),
                         ("thing", "hat", ""), ("claim", "", "hue"), ("claim", "zz", "form"), ("thing", "hat", "red")):
            with self.subTest(question=question):
                self.assertEqual(told_attributes(self, InvalidQuestion, possible_answers, self.office, question), [0])
                for value in ("red", "green"):
                    told = told_attributes(self, InvalidQuestion, answered, self.office, question, value)
                    self.assertEqual(told, [0])


class QuestionListsTest(unittest.TestCase):
    def setUp(self):
        things = {"cap": Thing(COLD, 3), "hat": Thing(NOTE, 5)}
        self.office = Office(CATALOG, things, {"ann": Claim(RED, 2), "bob": Claim(NOTE, 1)})
        self.right = [("claim", "ann", "hue"), ("claim", "ann", "size"), ("thing", "cap", "hue"),
                      ("claim", "bob", "hue")]

    def check_index(self, questions, index):
        with self.subTest(questions=questions):
            self.assertEqual(told_attributes(self, InvalidQuestion, next_question, self.office, questions), [index])
            for claim, thing in (("ann", "cap"), ("zz", "cap"), ("ann", "zz"), ("zz", "yy")):
                told = told_attributes(self, InvalidQuestion, fewest_questions, self.office, questions, claim, thing)
                self.assertEqual(told, [index])

    def test_four_are_not_too_many(self):
        self.assertEqual(next_question(self.office, self.right), wanted_next(self.office, self.right))

    def test_one_that_cannot_be_asked(self):
        for wrong in (("claim", "zz", "hue"), ("thing", "ann", "hue"), ("claim", "cap", "hue"),
                      ("thing", "hat", "form")):
            for place in range(4):
                self.check_index(self.right[:place] + [wrong] + self.right[place:3], place)

    def test_one_that_stands_before(self):
        for place in range(1, 4):
            self.check_index(self.right[:place] + [self.right[0]] + self.right[place:3], place)
        self.check_index(self.right[:3] + [self.right[2]], 3)

    def test_equal_but_for_one_part(self):
        questions = [("claim", "ann", "hue"), ("claim", "ann", "size"), ("claim", "bob", "hue"),
                     ("thing", "cap", "hue")]
        self.assertEqual(next_question(self.office, questions), wanted_next(self.office, questions))

    def test_a_fifth_one(self):
        self.check_index(self.right + [("thing", "hat", "hue")], 4)
        self.check_index(self.right + [("thing", "hat", "hue"), ("thing", "hat", "size")], 4)
        self.check_index(self.right + [self.right[0]], 4)
        self.check_index(self.right + [("thing", "hat", "form")], 4)

    def test_the_first_of_several_wrong_ones(self):
        wrong = ("thing", "zz", "hue")
        self.check_index([wrong, wrong], 0)
        self.check_index([self.right[0], wrong, self.right[0]], 1)
        self.check_index([self.right[0], self.right[0], wrong], 1)
        self.check_index(self.right[:2] + [wrong] + self.right[2:] + [self.right[0]], 2)
        self.check_index(self.right + [("thing", "hat", "hue"), wrong], 4)


class NextQuestionTest(unittest.TestCase):
    def test_no_questions(self):
        self.assertIsNone(checked(self, next_question, plain_office(3, 3), []))
        self.assertIsNone(next_question(plain_office(0, 0), []))

    def test_what_tells_nothing_is_asked_last(self):
        catalog = Catalog((("hue", ("blue", "red")),))
        red, blue, note = (Note(catalog, told) for told in ({"hue": ("red",)}, {"hue": ("blue",)}, {}))
        things = {"cap": Thing(red, 3), "hat": Thing(blue, 3)}
        office = Office(catalog, things, {"ann": Claim(note, 1), "bob": Claim(note, 1), "cy": Claim(note, 1)})
        # Six matches, of which Cy's answer leaves four.
        self.assertEqual(next_question(office, [("thing", "cap", "hue"), ("claim", "cy", "hue")]), 1)

    def test_the_worst_answer_counts(self):
        # Cy's hue leaves one match, four or one; Bob's size leaves three or two.
        big, small = (Note(CATALOG, {"hue": ("red",), "size": (size,)}) for size in ("big", "small"))
        claims = {"ann": Claim(Note(CATALOG, {"size": ("small",)}), 2), "bob": Claim(NOTE, 2), "cy": Claim(NOTE, 2)}
        office = Office(CATALOG, {"cap": Thing(big, 3), "hat": Thing(small, 3)}, claims)
        self.assertEqual(next_question(office, [("claim", "cy", "hue"), ("claim", "bob", "size")]), 1)

    def test_the_first_of_several(self):
        office = plain_office(2, 2)
        questions = [("claim", "cb", "hue"), ("claim", "ca", "hue"), ("thing", "ta", "hue")]
        self.assertEqual(next_question(office, questions), 0)
        self.assertEqual(next_question(office, [("thing", "tb", "hue"), ("claim", "ca", "hue")]), 0)

    def test_eight_by_eight(self):
        office = plain_office(8, 8)
        self.assertEqual(next_question(office, [("claim", "cb", "hue"), ("thing", "tc", "hue")]), 0)

    def test_drawn_offices(self):
        random = Random(5)
        found = []
        cases = [(office, random.sample(all_questions(office), 2)) for office in drawn_offices(40) if office.things]
        for office, questions in cases + [telling_case(random) for _ in range(100)]:
            index = checked(self, next_question, office, questions)
            self.assertEqual(index, wanted_next(office, questions))
            found.append(index)
        self.assertEqual(set(found), {None, 0, 1, 2, 3})


class FewestQuestionsTest(unittest.TestCase):
    def setUp(self):
        self.catalog = Catalog((("hue", ("blue", "red")), ("size", ("big", "small"))))
        self.note = Note(self.catalog, {})
        self.red = Note(self.catalog, {"hue": ("red",)})
        self.blue = Note(self.catalog, {"hue": ("blue",)})

    def test_no_questions(self):
        self.assertIsNone(checked(self, fewest_questions, plain_office(2, 2), [], "ca", "ta"))
        self.assertEqual(checked(self, fewest_questions, plain_office(1, 1), [], "ca", "ta"), 0)

    def test_what_is_told_already(self):
        claims = {"ann": Claim(self.red, 1), "bob": Claim(self.blue, 1)}
        office = Office(self.catalog, {"cap": Thing(self.red, 3)}, claims)
        questions = [("claim", "ann", "size"), ("thing", "cap", "size")]
        self.assertEqual(fewest_questions(office, questions[:0], "ann", "cap"), 0)
        self.assertEqual(fewest_questions(office, questions, "bob", "cap"), 0)

    def test_what_cannot_be_told(self):
        claims = {"ann": Claim(self.red, 1), "bob": Claim(self.red, 1)}
        office = Office(self.catalog, {"cap": Thing(self.red, 3)}, claims)
        for questions in ([("claim", "ann", "hue")], [("claim", "ann", "hue"), ("claim", "bob", "hue")],
                          [("claim", "ann", "size"), ("claim", "bob", "size"), ("thing", "cap", "size")]):
            self.assertIsNone(fewest_questions(office, questions, "ann", "cap"))

    def test_one_question(self):
        things = {"cap": Thing(self.red, 3), "hat": Thing(self.blue, 3)}
        office = Office(self.catalog, things, {"ann": Claim(self.note, 1), "bob": Claim(self.note, 1)})
        for question in (("claim", "ann", "hue"), ("claim", "bob", "hue")):
            self.assertEqual(fewest_questions(office, [question], "ann", "cap"), 1)
            self.assertEqual(fewest_questions(office, [("thing", "cap", "size"), question], "ann", "cap"), 1)

    def test_as_many_questions_as_there_are(self):
        # Each other thing differs from the first one in one feature, and the claims tell nothing.
        features = tuple((name, ("no", "yes")) for name in ("hue", "size", "wear", "form"))
        for count in (1, 2, 3, 4):
            names = [name for name, _ in features[:count]]
            catalog = Catalog(features[:count])
            cap = {name: (catalog[name][0],) for name in names}
            notes = [cap] + [{**cap, name: (catalog[name][1],)} for name in names]
            things = {"t" + letter: Thing(Note(catalog, told), 3) for letter, told in zip("abcde", notes)}
            note = Note(catalog, {})
            office = Office(catalog, things, {"c" + letter: Claim(note, 1) for letter in "abcde"[:count + 1]})
            questions = [("claim", "ca", name) for name in names]
            self.assertEqual(checked(self, fewest_questions, office, questions, "ca", "ta"), count)
            self.assertIsNone(fewest_questions(office, questions[1:], "ca", "ta"))
            self.assertEqual(fewest_questions(office, [("claim", "cb", names[-1])] + questions[:3], "ca", "ta"),
                             count if count < 4 else None)

    def test_unknown_labels(self):
        office = plain_office(2, 2)
        for questions in ([], [("claim", "ca", "hue")]):
            for claim, thing in (("zz", "ta"), ("ca", "zz"), ("zz", "yy"), ("ta", "ca"), ("ca", "cb"), ("ta", "tb")):
                with self.subTest(claim=claim, thing=thing):
                    told = told_attributes(self, UnknownLabel, fewest_questions, office, questions, claim, thing)
                    self.assertEqual(len(told), 0)

    def test_drawn_offices(self):
        random = Random(9)
        found = []
        for office, questions in [telling_case(random) for _ in range(60)]:
            for pair in product(office.claims, office.things):
                number = checked(self, fewest_questions, office, questions, *pair)
                wanted = plain_fewest(office, questions, pair)
                self.assertEqual(number, None if wanted == NEVER else wanted)
                found.append(number)
        self.assertLessEqual({None, 0, 1, 2}, set(found))

    def test_eight_by_eight(self):
        questions = [("claim", "ca", "hue"), ("claim", "cb", "hue"), ("thing", "ta", "hue"), ("thing", "tb", "hue")]
        self.assertIsNone(fewest_questions(plain_office(8, 8), questions, "cc", "tc"))
        self.assertIsNone(fewest_questions(plain_office(8, 8), questions, "ca", "ta"))


if __name__ == "__main__":
    unittest.main()
