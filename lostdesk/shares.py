"""Shares: the greatest matches by their numbers, and in which part of them somebody gets something."""

from math import gcd

from lostdesk.errors import InvalidMatch, InvalidNumber
from lostdesk.matches import pair_part, served_part
from lostdesk.offices import in_range
from lostdesk.pairing import Numbering, as_match, plain_rows


def match_at(office, number):
    """Return the greatest match with a number."""
    numbering = Numbering(plain_rows(office))
    if not in_range(number, 0, numbering.total() - 1):
        raise InvalidNumber(f"no greatest match {number}")
    return as_match(office, numbering.choice_at(number))


def number_of(office, match):
    """Return the number of a greatest match."""
    things = list(office.things)
    choice = [things.index(match[claim]) if match.get(claim) in things else None for claim in office.claims]
    number = Numbering(plain_rows(office)).place_of(choice)
    # A choice has nothing of labels that are not of the office.
    if number is None or as_match(office, choice) != match:
        raise InvalidMatch("not a greatest match")
    return number


def lowest_terms(part, whole):
    """Return a fraction in lowest terms, a tuple (numerator, denominator)."""
    divisor = gcd(part, whole)
    return part // divisor, whole // divisor


def pair_share(office, claim, thing):
    """Return in which part of all greatest matches a claim has a thing."""
    part, whole = pair_part(office, claim, thing)
    return lowest_terms(part, whole)


def served_share(office, label):
    """Return in which part of all greatest matches a claim or a thing is matched."""
    part, whole = served_part(office, label)
    return lowest_terms(part, whole)
