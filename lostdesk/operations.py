"""The operations of a desk: what each makes of its office and its marks, and what it returns.

Marks are a dict from their names to the offices that were marked. Each operation returns the office and the
marks behind it, and its result; it changes neither those before it.
"""

from lostdesk.catalogs import is_word
from lostdesk.errors import InvalidName, InvalidOperation, UnknownMark
from lostdesk.handing import handed
from lostdesk.matches import most_pairs, served
from lostdesk.offices import note_of, with_note


def find_thing(office, marked, label, thing):
    """Add a thing; the result is the greatest number of pairs then."""
    later = office.with_thing(label, thing)
    return later, marked, most_pairs(later)


def lose_claim(office, marked, label, claim):
    """Add a claim; the result is the greatest number of pairs then."""
    later = office.with_claim(label, claim)
    return later, marked, most_pairs(later)


def hand_over(office, marked, claim, thing):
    """Hand a thing over; the result is by how many pairs the greatest number is less then."""
    later = handed(office, claim, thing)
    return later, marked, most_pairs(office) - most_pairs(later)


def narrow_note(office, marked, label, feature, value):
    """Leave only one value for a feature in a note; the result is the greatest number of pairs then."""
    later = with_note(office, label, note_of(office, label).narrowed(feature, value))
    return later, marked, most_pairs(later)


def drop_entry(office, marked, label):
    """Remove a claim or a thing; the result is whether it was in some greatest match."""
    later = office.without(label)
    return later, marked, served(office, label) != "never"


def mark_office(office, marked, name):
    """Mark the office with a name; the result is whether there was such a mark."""
    if not is_word(name):
        raise InvalidName(f"no name of a mark: {name}")
    return office, {**marked, name: office}, name in marked


def go_back(office, marked, name):
    """Return to the office that was marked with a name last; the result is the number of its claims."""
    if name not in marked:
        raise UnknownMark(f"no mark {name}")
    later = marked[name]
    return later, marked, len(later.claims)


ACTS = {
    "find": find_thing,
    "lose": lose_claim,
    "hand": hand_over,
    "narrow": narrow_note,
    "drop": drop_entry,
    "mark": mark_office,
    "go": go_back,
}
# How many arguments each operation has, and undo and redo, which can stand among them.
ARGUMENTS = {"find": 2, "lose": 2, "hand": 2, "narrow": 3, "drop": 1, "mark": 1, "go": 1, "undo": 0, "redo": 0}


def performed(office, marked, operation):
    """Return the office and the marks behind an operation, and its result."""
    name, *arguments = operation
    act = ACTS[name]
    return act(office, marked, *arguments)


def is_operation(operation):
    """Tell whether this is a tuple of the name of an operation and the right number of arguments."""
    if not isinstance(operation, tuple) or len(operation) == 0:
        return False
    name = operation[0]
    # What is no string may be no key either.
    return isinstance(name, str) and name in ARGUMENTS and ARGUMENTS[name] == len(operation) - 1


def check_operations(operations):
    """Raise InvalidOperation if one of a list is no operation."""
    for index, operation in enumerate(operations):
        if not is_operation(operation):
            raise InvalidOperation(index)
