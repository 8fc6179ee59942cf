"""Tables: what is told of all pairs of claims and things."""

from lostdesk.fitting import fits
from lostdesk.matches import judge

TOLD = {"surely": "sure", "perhaps": "may", "never": "no"}


def cell(office, claim, thing):
    """Return the word that tells of a pair."""
    if not fits(office, claim, thing):
        return "-"
    return TOLD[judge(office, claim, thing)]


def line(office, claim):
    """Return the line of a claim."""
    cells = [cell(office, claim, thing) for thing in office.things]
    return " ".join([f"{claim}:"] + cells)


def table(office):
    """Return a text with a line for each claim that tells of its pairs with all things."""
    return "\n".join([line(office, claim) for claim in office.claims])
