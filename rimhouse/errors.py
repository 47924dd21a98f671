"""The refusals of the program, one class for each."""


class RimError(ValueError):
    """Any refusal."""


class NoBook(RimError):
    """What was handed in is no book, or no house that fits the book."""


class NoHouse(RimError):
    """A number that is none of a house."""


class TooMany(RimError):
    """More houses, or more of an amount, than there may be."""


class NoText(RimError):
    """A text that is not so written of any book."""


class NoRow(RimError):
    """A row that the desk does not know."""


class NothingLeft(RimError):
    """Nothing is left that could be taken back."""
