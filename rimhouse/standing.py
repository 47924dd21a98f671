"""Whether a house is too small or too great, and how the houses of a book stand."""

from rimhouse.fractions import NOUGHT, over_one_bottom
from rimhouse.others import share_of_others
from rimhouse.shares import share


def scale(book, number):
    """The scale of a house: "just", "small" or "great"."""
    by_any = share(book, number, "any")
    if by_any == share(book, number, "one"):
        return "just"
    if by_any == share(book, number, "less"):
        return "small"
    return "great"


def standing(book, sizes):
    """The numbers of all houses, those with a greater share first, then with a greater one against the others."""
    # A share is that against the others, but 1 where this is None or above 1: so this alone puts them in order.
    told = [share_of_others(book, number, sizes) for number in range(len(book))]
    tops, bottom = over_one_bottom([NOUGHT if one is None else one for one in told])
    return sorted(range(len(book)), key=lambda number: (told[number] is not None, -tops[number], number))
