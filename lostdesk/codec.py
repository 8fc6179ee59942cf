"""The codes of offices: lists of integers from 0 to 255, with a checksum at the end."""

from lostdesk.catalogs import FEWEST_VALUES, MOST_FEATURES, MOST_LETTERS, MOST_VALUES
from lostdesk.drafts import can_follow, drafted_office
from lostdesk.errors import DecodeError
from lostdesk.notes import told_names
from lostdesk.offices import MOST_ENTRIES, in_range

FIRST_ITEM = 108
HIGHEST_ITEM = 255
BASE = 256
MOST_DIGITS = 9
LETTERS = "abcdefghijklmnopqrstuvwxyz"


def checksum(items):
    """Return the checksum of the items before it."""
    total = 7
    for item in items:
        total = (11 * total + item) % 251
    return total


def word_code(word):
    """Return the items of a word."""
    return [len(word)] + [LETTERS.index(letter) + 1 for letter in word]


def number_code(number):
    """Return the items of a day or a worth."""
    digits = [number % BASE]
    while number >= BASE:
        number = number // BASE
        digits = [number % BASE] + digits
    return [len(digits)] + digits


def note_code(note):
    """Return the items of a note."""
    names = list(note.catalog.names)
    told = told_names(note)
    code = [len(told)]
    for name in told:
        values = note.catalog[name]
        places = [values.index(value) for value in note[name]]
        code.extend([names.index(name), len(places)] + places)
    return code


def feature_code(name, values):
    """Return the items of a feature."""
    code = word_code(name) + [len(values)]
    for value in values:
        code.extend(word_code(value))
    return code


def encode_office(office):
    """Return the code of an office."""
    code = [FIRST_ITEM, len(office.catalog)]
    for name, values in office.catalog.features:
        code.extend(feature_code(name, values))
    code.append(len(office.things))
    for label, thing in office.things.items():
        code.extend(word_code(label) + number_code(thing.day) + note_code(thing.note))
    code.append(len(office.claims))
    for label, claim in office.claims.items():
        code.extend(word_code(label) + number_code(claim.day) + [claim.slips] + number_code(claim.worth))
        code.extend(note_code(claim.note))
    return code + [checksum(code)]


class Items:
    """The items of a code, taken one after another; the first one that cannot stand there raises DecodeError."""

    def __init__(self, values):
        self._values = values
        # How many items were taken.
        self._count = 0

    def take(self, least, most):
        """Return the next item, which must be an integer from the least to the most one."""
        if self._count == len(self._values):
            raise DecodeError(self._count)
        item = self._values[self._count]
        if not isinstance(item, int) or not in_range(item, least, most):
            raise DecodeError(self._count)
        self._count += 1
        return item

    def need(self, right):
        """Raise DecodeError for the item that was taken last, if it is not right."""
        if not right:
            raise DecodeError(self._count - 1)

    def take_word(self):
        """Return the word that comes next."""
        count = self.take(1, MOST_LETTERS)
        return "".join([LETTERS[self.take(1, len(LETTERS)) - 1] for _ in range(count)])

    def take_number(self):
        """Return the day or the worth that comes next."""
        count = self.take(1, MOST_DIGITS)
        # A first digit 0 needs no other ones behind it.
        number = self.take(0 if count == 1 else 1, HIGHEST_ITEM)
        for _ in range(count - 1):
            number = BASE * number + self.take(0, HIGHEST_ITEM)
        return number

    def take_place(self, places, count):
        """Return the next item, which must be a place of so many, behind those that were taken before."""
        return self.take(places[-1] + 1 if len(places) > 0 else 0, count - 1)

    def end(self):
        """Take the checksum, and raise DecodeError if it is wrong or if there is one more item."""
        before = self._values[:self._count]
        self.need(self.take(0, HIGHEST_ITEM) == checksum(before))
        if self._count < len(self._values):
            raise DecodeError(self._count)


def take_feature(items):
    """Return the feature that comes next, a tuple of its name and its values."""
    name = items.take_word()
    count = items.take(FEWEST_VALUES, MOST_VALUES)
    return name, tuple([items.take_word() for _ in range(count)])


def take_choice(items, values):
    """Return the tuple of those of the values whose places come next."""
    places = []
    for _ in range(items.take(1, len(values))):
        places.append(items.take_place(places, len(values)))
    return tuple([values[place] for place in places])


def take_note(items, features):
    """Return what is told by the note that comes next, as a dict from names to values."""
    told = {}
    places = []
    for _ in range(items.take(0, len(features))):
        places.append(items.take_place(places, len(features)))
        name, values = features[places[-1]]
        told[name] = take_choice(items, values)
    return told


def take_label(items, entries, others):
    """Return the label that comes next, behind those of the entries, and beside other ones."""
    label = items.take_word()
    items.need(can_follow(label, entries, others))
    return label


def take_things(items, features):
    """Return the things that come next, as entries of a draft."""
    found = {}
    for _ in range(items.take(0, MOST_ENTRIES)):
        label = take_label(items, found, {})
        day = items.take_number()
        found[label] = ([day], take_note(items, features))
    return found


def take_claims(items, features, found):
    """Return the claims that come next, behind the things, as entries of a draft."""
    lost = {}
    for _ in range(items.take(0, MOST_ENTRIES)):
        label = take_label(items, lost, found)
        day = items.take_number()
        slips = items.take(0, HIGHEST_ITEM)
        worth = items.take_number()
        lost[label] = ([day, slips, worth], take_note(items, features))
    return lost


def decode_office(values):
    """Return the office of a code."""
    items = Items(values)
    items.take(FIRST_ITEM, FIRST_ITEM)
    count = items.take(1, MOST_FEATURES)
    features = [take_feature(items) for _ in range(count)]
    found = take_things(items, features)
    lost = take_claims(items, features, found)
    items.end()
    return drafted_office(tuple(features), found, lost)
