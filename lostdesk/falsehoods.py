"""Falsehoods: which claims may be false, if things are only given to those who claim rightly."""

from lostdesk.groups import all_groups
from lostdesk.matches import most_pairs


def serves_others(office, group):
    """Tell whether all claims can be matched at once but for those of a group."""
    for claim in group:
        office = office.without(claim)
    return most_pairs(office) == len(office.claims)


def false_sets(office):
    """Return the ascending list of all least sets of claims without which all others can be matched at once."""
    # Claims that can be matched at once can all be kept as more are matched, up to a greatest match: so each
    # least set has as many claims as a greatest match lacks.
    size = len(office.claims) - most_pairs(office)
    groups = [group for group in all_groups(list(office.claims)) if len(group) == size]
    return [tuple(group) for group in groups if serves_others(office, group)]


def cheapest_false(office):
    """Return the least worth of a least set of false claims, and the least one with this worth."""
    claims = office.claims
    return min([(sum([claims[label].worth for label in labels]), labels) for labels in false_sets(office)])


def doubtful(office):
    """Return the ascending list of the claims that are in some least sets of false claims but not in all."""
    sets = false_sets(office)
    parts = {claim: len([labels for labels in sets if claim in labels]) for claim in office.claims}
    return [claim for claim, part in parts.items() if 0 < part < len(sets)]
