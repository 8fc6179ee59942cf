"""Fitting: which things can be those that somebody claims."""

from lostdesk.errors import NotFitting, UnknownLabel
from lostdesk.notes import common_values
from lostdesk.offices import claim_of, thing_of


def misfits(office, claim, thing):
    """Return the list of the features in which a claim and a thing have no common value."""
    lost = claim_of(office, claim).note
    found = thing_of(office, thing).note
    return [name for name in office.catalog.names if len(common_values(lost, found, name)) == 0]


def fits(office, claim, thing):
    """Tell whether a thing was found in time, with no more misfits than the claim's slips."""
    lost = claim_of(office, claim)
    found = thing_of(office, thing)
    return found.day >= lost.day and len(misfits(office, claim, thing)) <= lost.slips


def check_fits(office, claim, thing):
    """Raise NotFitting if a thing does not fit a claim."""
    if not fits(office, claim, thing):
        raise NotFitting(f"{thing} does not fit {claim}")


def shared_count(office, claim, thing):
    """Return how many descriptions of a thing fit the claim, but for its slips; 0 if the thing does not."""
    if not fits(office, claim, thing):
        return 0
    lost = claim_of(office, claim)
    found = thing_of(office, thing).note
    # counts[k]: in how many ways the features so far can be described with k of them beside the claim.
    counts = [1] + [0] * lost.slips
    for name in office.catalog.names:
        right = len(common_values(lost.note, found, name))
        wrong = len(found[name]) - right
        counts = [right * same + wrong * fewer for same, fewer in zip(counts, [0] + counts)]
    return sum(counts)


def candidates(office, label):
    """Return the ascending list of the things that fit a claim, or of the claims that a thing fits."""
    if label in office.claims:
        return [thing for thing in office.things if fits(office, label, thing)]
    if label in office.things:
        return [claim for claim in office.claims if fits(office, claim, label)]
    raise UnknownLabel(f"no thing and no claim {label}")


def all_candidates(office):
    """Return a dict from each claim to the ascending list of the things that fit it."""
    return {claim: candidates(office, claim) for claim in office.claims}


def lonely(office):
    """Return the ascending list of all labels without candidates."""
    labels = sorted(list(office.things) + list(office.claims))
    return [label for label in labels if len(candidates(office, label)) == 0]


def rivals(office, claim):
    """Return the ascending list of all other claims that some thing fits that fits this one, too."""
    claim_of(office, claim)
    things = candidates(office, claim)
    others = [other for other in office.claims if other != claim]
    return [other for other in others if any([fits(office, other, thing) for thing in things])]
