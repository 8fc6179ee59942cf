"""Handing out: what a thing costs the others that somebody gets, and who gets what in turn."""

from lostdesk.errors import InvalidOrder, TooMany
from lostdesk.fitting import all_candidates, check_fits
from lostdesk.matches import most_pairs
from lostdesk.offices import first_wrong, in_order
from lostdesk.scores import greatest_score, score

MOST_ORDERED = 6


def handed(office, claim, thing):
    """Return the office without a claim and the thing that it gets."""
    check_fits(office, claim, thing)
    return office.without(claim).without(thing)


def score_loss(office, claim, thing):
    """Return by how much less score can be had in all if a thing is handed to a claim first."""
    return greatest_score(office) - score(office, claim, thing) - greatest_score(handed(office, claim, thing))


def pair_loss(office, claim, thing):
    """Return by how many pairs less can be had if a thing is handed to a claim first."""
    rest = handed(office, claim, thing)
    return most_pairs(office) - 1 - most_pairs(rest)


def has_no_loss(office, claim, thing):
    """Tell whether a thing can be handed to a claim first without a loss of pairs or of score."""
    return pair_loss(office, claim, thing) == 0 and score_loss(office, claim, thing) == 0


def lossless(office):
    """Return the ascending list of all pairs that fit and have neither loss."""
    return [
        (claim, thing)
        for claim, things in all_candidates(office).items()
        for thing in things
        if has_no_loss(office, claim, thing)
    ]


def takers(fitting, order):
    """Return a dict from what is taken to who takes it: all of an order, in turn, take the first that is left."""
    taken = {}
    for taker in order:
        left = [label for label in fitting[taker] if label not in taken]
        if len(left) > 0:
            taken[left[0]] = taker
    return taken


def in_turn(office, order):
    """Return the match that results if all claims take the least thing that is left, in an order."""
    index = first_wrong(order, office.claims)
    if index < len(order) or len(order) < len(office.claims):
        raise InvalidOrder(index)
    return in_order({claim: thing for thing, claim in takers(all_candidates(office), order).items()})


def all_orders(labels):
    """Return the lists of all labels, which ascend, in each order, in list order."""
    orders = [[]]
    for _ in labels:
        orders = [order + [label] for order in orders for label in labels if label not in order]
    return orders


def all_turns(office):
    """Return for all orders of all claims, in list order, tuples of the number of pairs in turn and the order."""
    if len(office.claims) > MOST_ORDERED:
        raise TooMany(f"more than {MOST_ORDERED} claims")
    fitting = all_candidates(office)
    return [(len(takers(fitting, order)), order) for order in all_orders(list(office.claims))]


def worst_order(office):
    """Return the least number of pairs of a match in turn, and the least order that has it."""
    return min(all_turns(office))


def best_order(office):
    """Return the greatest number of pairs of a match in turn, and the least order that has it."""
    # Of several greatest numbers, max takes the first, and the orders stand in list order.
    return max(all_turns(office), key=lambda turn: turn[0])
