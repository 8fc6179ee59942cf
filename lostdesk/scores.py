"""Scores: what pairs and matches count, and prices that show that no match counts more."""

from lostdesk.errors import InvalidPrices, NotEnough
from lostdesk.fitting import candidates, check_fits, misfits
from lostdesk.offices import claim_of, in_range
from lostdesk.pairing import as_match, best_tables, first_choice, plain_rows

# What a point weighs, where each pair weighs 1 more: more than the eight pairs that a match can have.
POINT = 9
HIGHEST_PRICE = 10 ** 12


def score(office, claim, thing):
    """Return the score of a pair: the claim's worth for each feature that is no misfit."""
    check_fits(office, claim, thing)
    return claim_of(office, claim).worth * (len(office.catalog) - len(misfits(office, claim, thing)))


def score_rows(office):
    """Return the rows of an office in which the weights tell first the score, then the number of pairs."""
    things = list(office.things)
    return [
        {number: score(office, claim, things[number]) * POINT + 1 for number in row}
        for claim, row in zip(office.claims, plain_rows(office))
    ]


def greatest_score(office):
    """Return the greatest score of a match."""
    return best_tables(score_rows(office))[0][0] // POINT


def best_match(office):
    """Return the greatest score of a match, and the first one of the most pairs that has it."""
    first = as_match(office, first_choice(score_rows(office)))
    return sum([score(office, claim, thing) for claim, thing in first.items()]), first


def check_prices(office, prices):
    """Raise InvalidPrices if a label has no price, or one that is out of range, or is none of the office."""
    missing = [label for label in list(office.claims) + list(office.things) if label not in prices]
    wrong = [label for label in prices if label not in office or not in_range(prices[label], 0, HIGHEST_PRICE)]
    if len(missing + wrong) > 0:
        raise InvalidPrices(min(missing + wrong))


def shown_bound(office, prices):
    """Return the sum of all prices, which no score exceeds, as they are enough for each pair."""
    check_prices(office, prices)
    for claim in office.claims:
        for thing in candidates(office, claim):
            if prices[claim] + prices[thing] < score(office, claim, thing):
                raise NotEnough(claim, thing)
    return sum(list(prices.values()))


def best_prices(office):
    """Return prices that are enough for each pair, with the greatest score as their sum."""
    # What all claims add to the greatest score without them can be asked of all of them at once, and the
    # things then cost what is still missing: the best prices for the claims in an assignment game.
    whole = greatest_score(office)
    prices = {claim: whole - greatest_score(office.without(claim)) for claim in office.claims}
    for thing in office.things:
        lacking = [score(office, claim, thing) - prices[claim] for claim in candidates(office, thing)]
        prices[thing] = max([0] + lacking)
    return prices
