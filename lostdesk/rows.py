"""Rows of texts: words that are separated by single spaces."""

from lostdesk.catalogs import ascends, is_word
from lostdesk.errors import InvalidText

MOST_DIGITS = 19


def is_numeral(word):
    """Tell whether a word is 0, or at most 19 digits that do not begin with 0."""
    # Not isdigit: it takes digits beyond 0 to 9, too.
    if not 1 <= len(word) <= MOST_DIGITS or not all(["0" <= digit <= "9" for digit in word]):
        return False
    return word == "0" or word[0] != "0"


class Words:
    """The words of a row, taken one after another; the first one that cannot stand there raises InvalidText."""

    def __init__(self, row, text):
        self._row = row
        self._words = text.split(" ")
        # How many words were taken.
        self._count = 0

    def has_more(self):
        """Tell whether there is one more word."""
        return self._count < len(self._words)

    def take(self):
        """Return the next word."""
        if not self.has_more():
            raise InvalidText(self._row, self._count)
        self._count += 1
        return self._words[self._count - 1]

    def need(self, right):
        """Raise InvalidText for the word that was taken last, if it is not right."""
        if not right:
            raise InvalidText(self._row, self._count - 1)

    def take_one_of(self, choice):
        """Return the next word, which must be one of several."""
        word = self.take()
        self.need(word in choice)
        return word

    def take_name(self):
        """Return the next word, which must be one to eight letters a to z."""
        word = self.take()
        self.need(is_word(word))
        return word

    def take_number(self):
        """Return the number that the next word is."""
        word = self.take()
        self.need(is_numeral(word))
        return int(word)

    def end(self):
        """Raise InvalidText if there is one more word."""
        if self.has_more():
            raise InvalidText(self._row, self._count)


def take_feature(words, features):
    """Take the words behind `feature`, and add them to a dict from names to values; there may be no values."""
    name = words.take_name()
    words.need(name not in features)
    values = []
    while words.has_more():
        value = words.take_name()
        words.need(ascends(values[-1:] + [value]))
        values.append(value)
    features[name] = tuple(values)
