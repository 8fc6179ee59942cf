"""Arrivals: things that come one by one, and must be given at once or to nobody."""

from lostdesk.errors import InvalidOrder
from lostdesk.fitting import candidates
from lostdesk.handing import takers
from lostdesk.offices import first_wrong, in_order


def fitting_claims(office):
    """Return a dict from each thing to the ascending list of the claims that it fits."""
    return {thing: candidates(office, thing) for thing in office.things}


def handed_at_once(office, order):
    """Return the match if each thing of an order is given to the first claim that it fits and that has none."""
    index = first_wrong(order, office.things)
    if index < len(order):
        raise InvalidOrder(index)
    return in_order(takers(fitting_claims(office), order))


class Outlook:
    """With how many pairs it can end, by the things that are left and the claims that have got one.

    Both are ascending tuples of labels: much of all the orders ends alike, so each such state is looked at once.
    """

    def __init__(self, office):
        self._fitting = fitting_claims(office)
        self._ends = {}

    def served_after(self, thing, served):
        """Return the claims that have got something after one more thing came."""
        free = [claim for claim in self._fitting[thing] if claim not in served]
        return tuple(sorted(list(served) + free[:1]))

    def ends_with(self, thing, left, served):
        """Return the numbers of pairs with which it can end if a thing of those that are left comes next."""
        later = tuple([other for other in left if other != thing])
        return self.ends(later, self.served_after(thing, served))

    def ends(self, left, served):
        """Return the ascending list of the numbers of pairs with which it can end."""
        if len(left) == 0:
            return [len(served)]
        if (left, served) not in self._ends:
            found = [number for thing in left for number in self.ends_with(thing, left, served)]
            self._ends[left, served] = sorted(set(found))
        return self._ends[left, served]

    def all_ends(self):
        """Return the ascending list of the numbers of pairs with which it can end from the beginning."""
        return self.ends(tuple(self._fitting), ())

    def first_order(self, number):
        """Return the least order of all things that ends with so many pairs."""
        order = ()
        left = tuple(self._fitting)
        served = ()
        while len(left) > 0:
            things = [thing for thing in left if number in self.ends_with(thing, left, served)]
            first = things[0]
            order = order + (first,)
            left = tuple([thing for thing in left if thing != first])
            served = self.served_after(first, served)
        return order


def fewest_at_once(office):
    """Return the least number of pairs of a match handed at once, over all orders of all things."""
    return Outlook(office).all_ends()[0]


def worst_arrival(office):
    """Return the least order of all things that has the least number of pairs."""
    outlook = Outlook(office)
    return outlook.first_order(outlook.all_ends()[0])


def good_order(office):
    """Return the least order of all things that has the most pairs."""
    outlook = Outlook(office)
    return outlook.first_order(outlook.all_ends()[-1])
