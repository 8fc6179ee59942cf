"""The errors of the package."""


class DeskError(ValueError):
    """The base class of all errors of the package."""


class InvalidCatalog(DeskError):
    """A catalog cannot be made; index is that of its first wrong feature."""

    def __init__(self, index):
        self.index = index


class UnknownFeature(DeskError):
    """A catalog has no feature with this name."""


class InvalidNote(DeskError):
    """A note cannot be made; feature is what is told wrongly."""

    def __init__(self, feature):
        self.feature = feature


class Conflict(DeskError):
    """Two notes, or a note and a value, have nothing in common in a feature."""

    def __init__(self, feature):
        self.feature = feature


class InvalidEntry(DeskError):
    """A thing, or a claim, has a part that is out of range."""

    def __init__(self, part):
        self.part = part


class InvalidOffice(DeskError):
    """An office cannot be made; part and label tell its first wrong entry."""

    def __init__(self, part, label):
        self.part = part
        self.label = label


class UnknownLabel(DeskError):
    """No claim, or no thing, has this label."""


class InvalidNumber(DeskError):
    """A number is out of range."""


class TooMany(DeskError):
    """There are more of them than are listed."""


class NotFitting(DeskError):
    """A claim and a thing do not fit."""


class InvalidPrices(DeskError):
    """Prices are not those of an office; label has the first wrong one."""

    def __init__(self, label):
        self.label = label


class NotEnough(DeskError):
    """The prices of a claim and a thing together are less than their score."""

    def __init__(self, claim, thing):
        self.claim = claim
        self.thing = thing


class InvalidGroup(DeskError):
    """A list is no group of claims; index is that of its first wrong label."""

    def __init__(self, index):
        self.index = index


class InvalidOrder(DeskError):
    """A list is no order; index is that of its first wrong label."""

    def __init__(self, index):
        self.index = index


class InvalidTerms(DeskError):
    """Terms have a part that is out of range."""

    def __init__(self, part):
        self.part = part


class InvalidQuestion(DeskError):
    """A question cannot be asked; index is that of the first such one."""

    def __init__(self, index):
        self.index = index


class InvalidAnswer(DeskError):
    """A value is no answer to a question."""


class InvalidMatch(DeskError):
    """A dict is no greatest match."""


class InvalidOffices(DeskError):
    """Offices cannot be joined; index is that of the first wrong one."""

    def __init__(self, index):
        self.index = index


class InvalidTravel(DeskError):
    """Travel does not belong to the offices; index is that of the first wrong tuple."""

    def __init__(self, index):
        self.index = index


class InvalidName(DeskError):
    """A name of a mark is no word."""


class UnknownMark(DeskError):
    """No mark has this name."""


class InvalidOperation(DeskError):
    """An operation cannot be executed; index is that of the first such one."""

    def __init__(self, index):
        self.index = index


class NoOwner(DeskError):
    """No claim remains."""


class InvalidText(DeskError):
    """A text is not that of an office; row and word tell where."""

    def __init__(self, row, word):
        self.row = row
        self.word = word


class DecodeError(DeskError):
    """A list is no code of an office; offset tells where."""

    def __init__(self, offset):
        self.offset = offset


class DaybookError(DeskError):
    """A daybook is wrong; row and word tell where."""

    def __init__(self, row, word):
        self.row = row
        self.word = word
