"""Catalogs: the features by which things and claims are described."""

from lostdesk.errors import InvalidCatalog, UnknownFeature

MOST_FEATURES = 6
FEWEST_VALUES = 2
MOST_VALUES = 8
MOST_LETTERS = 8


def is_word(text):
    """Tell whether a text is one to eight letters a to z."""
    # Not isalpha or islower: they take letters beyond a to z, too.
    return 1 <= len(text) <= MOST_LETTERS and all(["a" <= letter <= "z" for letter in text])


def ascends(words):
    """Tell whether each word is greater than the one before it."""
    return all([one < other for one, other in zip(words, words[1:])])


def is_feature(name, values):
    """Tell whether a catalog can have a feature with this name and these values."""
    if not FEWEST_VALUES <= len(values) <= MOST_VALUES:
        return False
    return is_word(name) and ascends(values) and all([is_word(value) for value in values])


class Catalog:
    """Features with their names and values; it never changes."""

    def __init__(self, features):
        if len(features) == 0:
            raise InvalidCatalog(0)
        names = []
        for index, (name, values) in enumerate(features):
            if index == MOST_FEATURES or name in names or not is_feature(name, values):
                raise InvalidCatalog(index)
            names.append(name)
        self._features = features
        self._values = dict(features)

    @property
    def features(self):
        """The tuple of all features, each a tuple (name, values)."""
        return self._features

    @property
    def names(self):
        """The tuple of the names of all features."""
        return tuple(self._values)

    def __getitem__(self, name):
        if name not in self._values:
            raise UnknownFeature(f"no feature {name}")
        return self._values[name]

    def __iter__(self):
        raise TypeError("a catalog cannot be iterated over")

    def __contains__(self, name):
        return name in self._values

    def __len__(self):
        return len(self._features)

    def __eq__(self, other):
        return isinstance(other, Catalog) and self._features == other._features
