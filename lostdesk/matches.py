"""Matches: who can get what, if as many as possible are served."""

from lostdesk.errors import InvalidNumber, TooMany
from lostdesk.fitting import fits
from lostdesk.offices import is_count
from lostdesk.pairing import all_choices, as_match, first_choice, plain_rows, size_counts

MOST_LISTED = 5000


def match_count(office, size):
    """Return how many matches have just so many pairs."""
    if not is_count(size):
        raise InvalidNumber(f"a match cannot have {size} pairs")
    counts = size_counts(plain_rows(office))
    return counts[size] if size < len(counts) else 0


def most_pairs(office):
    """Return the greatest number of pairs of a match."""
    return len(size_counts(plain_rows(office))) - 1


def greatest_count(office):
    """Return how many greatest matches there are."""
    return size_counts(plain_rows(office))[-1]


def first_match(office):
    """Return the first greatest match."""
    return as_match(office, first_choice(plain_rows(office)))


def matches(office):
    """Yield all greatest matches, in order."""
    if greatest_count(office) > MOST_LISTED:
        raise TooMany(f"more than {MOST_LISTED} greatest matches")
    for choice in all_choices(plain_rows(office)):
        yield as_match(office, choice)


def told_part(part, whole, words):
    """Return the first of three words for all, the second for some, the third for none."""
    if part == 0:
        return words[2]
    return words[0] if part == whole else words[1]


def pair_part(office, claim, thing):
    """Return how many greatest matches have a pair, and how many there are."""
    if not fits(office, claim, thing):
        return 0, greatest_count(office)
    counts = size_counts(plain_rows(office))
    rest = office.without(claim).without(thing)
    return match_count(rest, len(counts) - 2), counts[-1]


def served_part(office, label):
    """Return how many greatest matches have a claim or a thing, and how many there are."""
    counts = size_counts(plain_rows(office))
    lacking = match_count(office.without(label), len(counts) - 1)
    return counts[-1] - lacking, counts[-1]


def judge(office, claim, thing):
    """Return "surely", "perhaps" or "never", as a pair is in all, some or no greatest matches."""
    part, whole = pair_part(office, claim, thing)
    return told_part(part, whole, ("surely", "perhaps", "never"))


def sure_pairs(office):
    """Return the match of all pairs that are in all greatest matches."""
    # Such a pair is in the first one, too.
    first = first_match(office)
    return {claim: thing for claim, thing in first.items() if judge(office, claim, thing) == "surely"}


def served(office, label):
    """Return "always", "sometimes" or "never", as a label has a pair in all, some or no greatest matches."""
    part, whole = served_part(office, label)
    return told_part(part, whole, ("always", "sometimes", "never"))
