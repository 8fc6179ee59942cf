"""Notes: what values the features of a thing can have."""

from lostdesk.catalogs import ascends
from lostdesk.errors import Conflict, InvalidNote, UnknownFeature


def is_choice(chosen, values):
    """Tell whether a tuple is an ascending choice of at least one of the values."""
    return len(chosen) > 0 and ascends(chosen) and all([value in values for value in chosen])


def common_values(one, other, name):
    """Return the ascending tuple of the values that a feature can have by both notes."""
    return tuple([value for value in one[name] if value in other[name]])


class Note:
    """The values that each feature can have; it never changes."""

    def __init__(self, catalog, told):
        unknown = [name for name in told if name not in catalog]
        if len(unknown) > 0:
            raise InvalidNote(min(unknown))
        for name, values in catalog.features:
            if name in told and not is_choice(told[name], values):
                raise InvalidNote(name)
        self._catalog = catalog
        # With all features and in the catalog's order, equal notes have equal values.
        self._values = {name: told.get(name, values) for name, values in catalog.features}

    @property
    def catalog(self):
        """The catalog whose features the note tells of."""
        return self._catalog

    @property
    def description_count(self):
        """The number of descriptions that fit the note."""
        total = 1
        for values in self._values.values():
            total = total * len(values)
        return total

    def both(self, other):
        """Return the note with the values that are common to this one and another."""
        told = {}
        for name in self._catalog.names:
            told[name] = common_values(self, other, name)
            if len(told[name]) == 0:
                raise Conflict(name)
        return Note(self._catalog, told)

    def narrowed(self, name, value):
        """Return the note by which a feature has this value."""
        if value not in self[name]:
            raise Conflict(name)
        return Note(self._catalog, {**self._values, name: (value,)})

    def __getitem__(self, name):
        if name not in self._values:
            raise UnknownFeature(f"no feature {name}")
        return self._values[name]

    def __iter__(self):
        raise TypeError("a note cannot be iterated over")

    def __eq__(self, other):
        return isinstance(other, Note) and self._catalog == other._catalog and self._values == other._values


def told_names(note):
    """Return the list of the features, in the order of the catalog, that cannot have all their values."""
    return [name for name, values in note.catalog.features if note[name] != values]
