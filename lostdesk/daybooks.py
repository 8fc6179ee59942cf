"""Daybooks: texts of what happened at a desk, and of questions that it answers."""

from lostdesk.catalogs import Catalog
from lostdesk.desks import Desk
from lostdesk.errors import DaybookError, DeskError, InvalidCatalog, InvalidText
from lostdesk.matches import judge, most_pairs
from lostdesk.notes import Note
from lostdesk.offices import Claim, Thing
from lostdesk.rows import Words, take_feature
from lostdesk.shares import pair_share

MOST_ROWS = 200
# What stands behind the first word of an entry or a question: how many names, then how many numbers.
FORMS = {
    "find": (1, 1),
    "lose": (1, 3),
    "hand": (2, 0),
    "narrow": (3, 0),
    "drop": (1, 0),
    "most": (0, 0),
    "judge": (2, 0),
    "share": (2, 0),
    "open": (0, 0),
}
QUESTIONS = ("most", "judge", "share", "open")


def first_words(features, entries):
    """Return the list of what a row can begin with, by what was read before it."""
    if len(features) == 0:
        return ["feature"]
    return list(FORMS) + (["feature"] if len(entries) == 0 else [])


def take_entry(words, first):
    """Return a tuple of the first word of an entry or a question, and of what stands behind it."""
    names, numbers = FORMS[first]
    told = [words.take_name() for _ in range(names)] + [words.take_number() for _ in range(numbers)]
    words.end()
    return (first, *told)


def read_rows(text):
    """Return a dict of the features of a daybook, and the list of its entries and questions."""
    features = {}
    entries = []
    for row, line in enumerate(text.split("\n")):
        if row == MOST_ROWS:
            raise InvalidText(row, 0)
        words = Words(row, line)
        first = words.take_one_of(first_words(features, entries))
        if first == "feature":
            take_feature(words, features)
        else:
            entries.append(take_entry(words, first))
    return features, entries


def checked_rows(text):
    """Return what read_rows does, or raise DaybookError for the first word that is wrong."""
    try:
        return read_rows(text)
    except InvalidText as wrong:
        raise DaybookError(wrong.row, wrong.word)


def checked_catalog(features):
    """Return the catalog of a dict of features, or raise DaybookError for the row by which it is invalid."""
    try:
        return Catalog(tuple(features.items()))
    except InvalidCatalog as wrong:
        # The rows of the features are the first ones.
        raise DaybookError(wrong.index, 0)


def operation_of(entry, note):
    """Return the operation of a desk that an entry stands for, where things and claims have this note."""
    if entry[0] == "find":
        _, label, day = entry
        return "find", label, Thing(note, day)
    if entry[0] == "lose":
        _, label, day, slips, worth = entry
        return "lose", label, Claim(note, day, slips, worth)
    return entry


def answer(desk, question):
    """Return the line that answers a question."""
    name, *labels = question
    if name == "most":
        return str(most_pairs(desk.office()))
    if name == "judge":
        return judge(desk.office(), *labels)
    if name == "share":
        part, whole = pair_share(desk.office(), *labels)
        return f"{part}/{whole}"
    claims = desk.open_claims()
    return " ".join(claims) if len(claims) > 0 else "-"


class Daybook:
    """A text of features, entries and questions; it never changes."""

    def __init__(self, text):
        features, entries = checked_rows(text)
        self._catalog = checked_catalog(features)
        self._operations = []
        self._answers = []
        desk = self.desk()
        for index, entry in enumerate(entries):
            self._execute(desk, entry, len(features) + index)

    def _execute(self, desk, entry, row):
        """Execute an entry of a row on a desk, or answer a question."""
        try:
            if entry[0] in QUESTIONS:
                self._answers.append(answer(desk, entry))
            else:
                operation = operation_of(entry, Note(self._catalog, {}))
                desk.apply_all([operation])
                self._operations.append(operation)
        except DeskError:
            raise DaybookError(row, 0)

    def desk(self):
        """Return a new desk after all entries."""
        return Desk.replay(self._catalog, self._operations)

    @property
    def results(self):
        """The text with a line for each question."""
        return "\n".join(self._answers)
