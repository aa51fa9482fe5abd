"""The errors of the package.

An error with an attribute is created with its value alone, which is its message, too.
"""


class HarmError(ValueError):
    """What all errors of the package are."""


class BadKeep(HarmError):
    """Something is no keep; part is what is wrong in it, None if it is not a Keep at all."""

    def __init__(self, part):
        self.part = part


class BadPlan(HarmError):
    """Something is no plan, or none for the keep; part is what is wrong in it, None if it is the whole."""

    def __init__(self, part):
        self.part = part


class BadBlock(HarmError):
    """Something is not a block of the keep."""


class BadState(HarmError):
    """Something is not a state of the keep with the plan."""


class BadDeed(HarmError):
    """Something is not a deed of the keep."""


class NotNow(HarmError):
    """A deed is not possible in the state."""


class BadHistory(HarmError):
    """Something is no history; index is that of the first wrong item, None if it is no list or tuple."""

    def __init__(self, index):
        self.index = index


class BadWish(HarmError):
    """Something is not one of the wishes."""


class TooLarge(HarmError):
    """More comes about than is looked at."""


class BadPrices(HarmError):
    """Something is not a dict of prices as it is asked for."""


class NothingDone(HarmError):
    """There is no deed to be taken back."""


class BadText(HarmError):
    """A text cannot be read; row is the index of its first wrong line."""

    def __init__(self, row):
        self.row = row


class BadShelf(HarmError):
    """Something is not the number of a shelf of the keep."""


class BadKind(HarmError):
    """Something is not one of the ways in which a shelf is wronged."""
