"""Owners: who can be the owner of one thing, the more of it is seen."""

from lostdesk.errors import NoOwner, UnknownLabel
from lostdesk.fitting import candidates, fits
from lostdesk.offices import thing_of, with_note


def check_remaining(claims):
    """Raise NoOwner if no claims remain."""
    if len(claims) == 0:
        raise NoOwner("no claim remains")


class Owners:
    """The claims that can be those of the owner of a thing."""

    def __init__(self, office, thing):
        thing_of(office, thing)
        remaining = candidates(office, thing)
        check_remaining(remaining)
        self._office = office
        self._thing = thing
        self._remaining = tuple(remaining)

    @property
    def remaining(self):
        """The ascending tuple of the claims that remain."""
        return self._remaining

    def thing_note(self):
        """Return the note of the thing as it is now."""
        return thing_of(self._office, self._thing).note

    def _seen(self, feature, value):
        """Return the office in which the thing has a value, and the tuple of the claims that remain then."""
        office = with_note(self._office, self._thing, self.thing_note().narrowed(feature, value))
        return office, tuple([claim for claim in self._remaining if fits(office, claim, self._thing)])

    def see(self, feature, value):
        """Tell that the thing has a value, and return how many claims remain that it fits then."""
        office, remaining = self._seen(feature, value)
        check_remaining(remaining)
        self._office = office
        self._remaining = remaining
        return len(remaining)

    def deny(self, claim):
        """Tell that a claim is not the owner's, and return how many remain."""
        if claim not in self._remaining:
            raise UnknownLabel(f"no claim {claim} remains")
        remaining = tuple([other for other in self._remaining if other != claim])
        check_remaining(remaining)
        self._remaining = remaining
        return len(remaining)

    def _most_left(self, feature):
        """Return how many claims remain in the worst case if the value of a feature is seen."""
        return max([len(self._seen(feature, value)[1]) for value in self.thing_note()[feature]])

    def telling(self, features):
        """Return the first of a list of features behind whose value the fewest claims remain at worst, or None."""
        left = [self._most_left(feature) for feature in features]
        return features[left.index(min(left))] if len(left) > 0 else None
