"""Branches: offices that help one another, and the days that things travel between them."""

from lostdesk.errors import InvalidOffices, InvalidTravel
from lostdesk.fitting import all_candidates, check_fits
from lostdesk.matches import most_pairs
from lostdesk.offices import MOST_ENTRIES, Office, in_range
from lostdesk.pairing import as_match, first_choice, size_counts, weighted_rows

FEWEST_OFFICES = 2
MOST_OFFICES = 3
LONGEST_TRAVEL = 99
# What a pair weighs less the days that its thing travels: more than the days of eight pairs.
PAIR = 1000


def can_join(whole, office):
    """Tell whether one more office can help an office that has all things and claims of those before it."""
    if office.catalog != whole.catalog:
        return False
    things = list(office.things)
    claims = list(office.claims)
    if len([label for label in things + claims if label in whole]) > 0:
        return False
    return len(whole.things) + len(things) <= MOST_ENTRIES and len(whole.claims) + len(claims) <= MOST_ENTRIES


def joined(offices):
    """Return the office with all things and claims of two or three offices."""
    if not FEWEST_OFFICES <= len(offices) <= MOST_OFFICES:
        raise InvalidOffices(len(offices))
    whole = offices[0]
    for index in range(1, len(offices)):
        office = offices[index]
        if not can_join(whole, office):
            raise InvalidOffices(index)
        whole = Office(whole.catalog, {**whole.things, **office.things}, {**whole.claims, **office.claims})
    return whole


def is_travel(days, home, count):
    """Tell whether a tuple has the days of travel from an office to each of so many."""
    if len(days) != count or len([one for one in days if not in_range(one, 0, LONGEST_TRAVEL)]) > 0:
        return False
    return days[home] == 0


def check_travel(offices, travel):
    """Raise InvalidTravel if travel has not just a tuple of days for each office."""
    for index in range(len(offices)):
        if index == len(travel) or not is_travel(travel[index], index, len(offices)):
            raise InvalidTravel(index)
    if len(travel) > len(offices):
        raise InvalidTravel(len(offices))


def homes(offices):
    """Return a dict from all labels to the indexes of their offices."""
    return {label: index for index, office in enumerate(offices) for label in list(office.things) + list(office.claims)}


def travel_days(offices, travel):
    """Return a dict from all pairs that fit in the joined office to the days that the thing travels."""
    whole = joined(offices)
    check_travel(offices, travel)
    home = homes(offices)
    pairs = [(claim, thing) for claim, things in all_candidates(whole).items() for thing in things]
    return {(claim, thing): travel[home[thing]][home[claim]] for claim, thing in pairs}


def travel_match(offices, travel):
    """Return the least sum of days of travel of a greatest match of the joined office, and the first such match."""
    days = travel_days(offices, travel)
    whole = joined(offices)
    rows = weighted_rows(whole, {pair: PAIR - days[pair] for pair in days})
    match = as_match(whole, first_choice(rows))
    return sum([days[pair] for pair in match.items()]), match


def meeting_day(offices, travel, claim, thing):
    """Return the first day on which a thing can be handed over at the claim's office."""
    days = travel_days(offices, travel)
    whole = joined(offices)
    check_fits(whole, claim, thing)
    return whole.things[thing].day + days[claim, thing]


def days_apart(offices, travel):
    """Return within how many days, at least, all pairs of some greatest match can meet; None if it has no pairs."""
    days = travel_days(offices, travel)
    whole = joined(offices)
    things = whole.things
    claims = whole.claims
    behind = {(claim, thing): things[thing].day + days[claim, thing] - claims[claim].day for claim, thing in days}
    for limit in sorted(set(list(behind.values()))):
        near = {pair: 1 for pair in days if behind[pair] <= limit}
        if len(size_counts(weighted_rows(whole, near))) - 1 == most_pairs(whole):
            return limit
    return None
