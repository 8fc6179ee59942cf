"""Offices: the things that were found, and the claims of those who lost something."""

from lostdesk.catalogs import is_word
from lostdesk.errors import InvalidEntry, InvalidOffice, UnknownLabel

LAST_DAY = 10 ** 18
MOST_SLIPS = 2
MOST_WORTH = 10 ** 9
MOST_ENTRIES = 8


def is_count(number):
    """Tell whether a number is an integer that is not below 0; a boolean is none."""
    return not isinstance(number, bool) and number >= 0


def in_range(number, least, most):
    """Tell whether a number is an integer from the least to the most one; a boolean is none."""
    return not isinstance(number, bool) and least <= number <= most


def first_wrong(labels, known):
    """Return the index of the first label that is not known or stands before, or their number if there is none."""
    for index, label in enumerate(labels):
        if label not in known or label in labels[:index]:
            return index
    return len(labels)


class Thing:
    """What was found on a day; it never changes."""

    def __init__(self, note, day):
        if not in_range(day, 0, LAST_DAY):
            raise InvalidEntry("day")
        self._note = note
        self._day = day

    @property
    def note(self):
        """What its features can be."""
        return self._note

    @property
    def day(self):
        """The day on which it was found."""
        return self._day

    def __eq__(self, other):
        return isinstance(other, Thing) and self._note == other._note and self._day == other._day


class Claim:
    """What somebody lost on a day, with so many features perhaps wrong; it never changes."""

    def __init__(self, note, day, slips=0, worth=1):
        if not in_range(day, 0, LAST_DAY):
            raise InvalidEntry("day")
        if not in_range(slips, 0, MOST_SLIPS):
            raise InvalidEntry("slips")
        if not in_range(worth, 1, MOST_WORTH):
            raise InvalidEntry("worth")
        self._note = note
        self._day = day
        self._slips = slips
        self._worth = worth

    @property
    def note(self):
        """What its features can be."""
        return self._note

    @property
    def day(self):
        """The day on which it was lost."""
        return self._day

    @property
    def slips(self):
        """In how many features the claim may be wrong."""
        return self._slips

    @property
    def worth(self):
        """What a feature that is right counts."""
        return self._worth

    def __eq__(self, other):
        if not isinstance(other, Claim) or self._note != other._note:
            return False
        return self._day == other._day and self._slips == other._slips and self._worth == other._worth


def check_entries(part, catalog, entries, taken):
    """Raise InvalidOffice if things or claims cannot stand in an office, with labels that are taken."""
    labels = sorted(entries)
    for label in labels:
        if not is_word(label) or entries[label].note.catalog != catalog or label in taken:
            raise InvalidOffice(part, label)
    if len(labels) > MOST_ENTRIES:
        raise InvalidOffice(part, labels[MOST_ENTRIES])


def in_order(entries):
    """Return a new dict with things or claims in ascending order of their labels."""
    return {label: entries[label] for label in sorted(entries)}


def all_but(entries, label):
    """Return a new dict with things or claims without the one with a label, if there is one."""
    return {other: entry for other, entry in entries.items() if other != label}


class Office:
    """Things and claims with their labels; it never changes."""

    def __init__(self, catalog, things, claims):
        check_entries("things", catalog, things, {})
        check_entries("claims", catalog, claims, things)
        self._catalog = catalog
        self._things = in_order(things)
        self._claims = in_order(claims)

    @property
    def catalog(self):
        """The catalog of all notes."""
        return self._catalog

    @property
    def things(self):
        """A new dict from labels, ascending, to things."""
        return dict(self._things)

    @property
    def claims(self):
        """A new dict from labels, ascending, to claims."""
        return dict(self._claims)

    def with_thing(self, label, thing):
        """Return the office with a thing, in the place of the one with this label."""
        return Office(self._catalog, {**self._things, label: thing}, self._claims)

    def with_claim(self, label, claim):
        """Return the office with a claim, in the place of the one with this label."""
        return Office(self._catalog, self._things, {**self._claims, label: claim})

    def without(self, label):
        """Return the office without a thing or a claim."""
        if label not in self:
            raise UnknownLabel(f"no thing and no claim {label}")
        return Office(self._catalog, all_but(self._things, label), all_but(self._claims, label))

    def __contains__(self, label):
        return label in self._things or label in self._claims

    def __eq__(self, other):
        if not isinstance(other, Office) or self._catalog != other._catalog:
            return False
        return self._things == other._things and self._claims == other._claims


def claim_of(office, label):
    """Return the claim with a label."""
    claims = office.claims
    if label not in claims:
        raise UnknownLabel(f"no claim {label}")
    return claims[label]


def thing_of(office, label):
    """Return the thing with a label."""
    things = office.things
    if label not in things:
        raise UnknownLabel(f"no thing {label}")
    return things[label]


def note_of(office, label):
    """Return the note of a thing or a claim."""
    return thing_of(office, label).note if label in office.things else claim_of(office, label).note


def with_note(office, label, note):
    """Return the office in which a thing or a claim has another note."""
    if label in office.things:
        return office.with_thing(label, Thing(note, office.things[label].day))
    claim = claim_of(office, label)
    return office.with_claim(label, Claim(note, claim.day, claim.slips, claim.worth))
