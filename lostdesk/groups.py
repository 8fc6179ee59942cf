"""Groups: which claims cannot all be served, and how to show it."""

from lostdesk.errors import InvalidGroup
from lostdesk.fitting import all_candidates
from lostdesk.offices import first_wrong


def all_groups(labels):
    """Return all lists of some of the labels, which ascend, in list order."""
    groups = [[]]
    for label in labels[::-1]:
        groups = [[]] + [[label] + group for group in groups] + groups[1:]
    return groups


def lack(group, fitting):
    """Return how many claims a group has more than things fit some of them; below 0 if it has fewer."""
    return len(group) - len({thing for claim in group for thing in fitting[claim]})


def short_group(office):
    """Return the first shortest list of claims to which fewer things fit than they are, or None."""
    fitting = all_candidates(office)
    short = [group for group in all_groups(list(office.claims)) if lack(group, fitting) > 0]
    # Of several shortest ones, min takes the first, and they stand in list order.
    return min(short, key=len, default=None)


def shown_group(office, claims):
    """Return by how many claims of a list at least go without a thing in each match."""
    index = first_wrong(claims, office.claims)
    if index < len(claims):
        raise InvalidGroup(index)
    return max(0, lack(claims, all_candidates(office)))
