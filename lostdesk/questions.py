"""Questions: what a loser, or a look at a thing, can tell, and what is best asked."""

from lostdesk.errors import InvalidAnswer, InvalidQuestion
from lostdesk.matches import greatest_count, judge
from lostdesk.offices import with_note

MOST_QUESTIONS = 4


def asked_entries(office, question):
    """Return the claims or the things of an office, as a question is asked of these or of those."""
    return office.claims if question[0] == "claim" else office.things


def can_be_asked(office, question):
    """Tell whether there is the claim or the thing of a question, and the feature."""
    _, label, feature = question
    return label in asked_entries(office, question) and feature in office.catalog


def check_questions(office, questions):
    """Raise InvalidQuestion if a question cannot be asked or stands before, or if there are too many."""
    for index, question in enumerate(questions):
        if index == MOST_QUESTIONS or question in questions[:index] or not can_be_asked(office, question):
            raise InvalidQuestion(index)


def possible_answers(office, question):
    """Return the tuple of the values that the answer of a question can be."""
    check_questions(office, [question])
    _, label, feature = question
    return asked_entries(office, question)[label].note[feature]


def answered(office, question, value):
    """Return the office in which the note of the entry that is asked has only this value for the feature."""
    if value not in possible_answers(office, question):
        raise InvalidAnswer(f"{value} cannot be the answer")
    _, label, feature = question
    return with_note(office, label, asked_entries(office, question)[label].note.narrowed(feature, value))


def most_left(office, question):
    """Return the number of greatest matches behind the answer of a question that leaves the most."""
    return max([greatest_count(answered(office, question, value)) for value in possible_answers(office, question)])


def next_question(office, questions):
    """Return the index of the first question behind which the fewest greatest matches are left at worst, or None."""
    check_questions(office, questions)
    left = [most_left(office, question) for question in questions]
    return left.index(min(left)) if len(left) > 0 else None


class Inquiry:
    """Which questions have to be asked until a pair is judged.

    What is told is a tuple with the answer of each question, or None where it is not asked yet.
    """

    def __init__(self, office, questions, claim, thing):
        self._office = office
        self._questions = questions
        self._claim = claim
        self._thing = thing
        # By what is told: the same answers come in different orders.
        self._judged = {}

    def is_judged(self, told):
        """Tell whether what is told is enough to judge the pair."""
        if told not in self._judged:
            office = self._office
            for question, value in zip(self._questions, told):
                if value is not None:
                    office = answered(office, question, value)
            self._judged[told] = judge(office, self._claim, self._thing) != "perhaps"
        return self._judged[told]

    def is_enough(self, told, number):
        """Tell whether so many more questions are enough, whatever the answers are."""
        if self.is_judged(told):
            return True
        for place, value in enumerate(told):
            if number > 0 and value is None and self.is_enough_with(told, number, place):
                return True
        return False

    def is_enough_with(self, told, number, place):
        """Tell whether so many more questions are enough if a certain one is asked first."""
        for value in possible_answers(self._office, self._questions[place]):
            if not self.is_enough(told[:place] + (value,) + told[place + 1:], number - 1):
                return False
        return True


def fewest_questions(office, questions, claim, thing):
    """Return how many of the questions have to be asked in the worst case until a pair is judged, or None."""
    check_questions(office, questions)
    inquiry = Inquiry(office, questions, claim, thing)
    for number in range(len(questions) + 1):
        if inquiry.is_enough((None,) * len(questions), number):
            return number
    return None
