"""How far a house could be shrunk, or grow, with a mix and with prices that show it."""

from rimhouse.books import house_of
from rimhouse.fractions import lowest
from rimhouse.prices import greatest_earned, greatest_given, told_prices


def held_against(houses, house, sizes):
    """The share of a house by mixes of houses of which it need not be one, None where none gives out as much."""
    found = greatest_earned(houses, house, sizes)
    # Where no mix gives out as much, prices can be found at which the house earns as much as one likes.
    if found is None:
        return None
    top, amounts, weights, bottom = found
    return lowest(top, bottom)


def share(book, number, sizes):
    """The share of a house, by sizes."""
    return held_against(book, house_of(book, number), sizes)


def share_shown(book, number, sizes):
    """The share of a house, a mix and prices that show it: a tuple of the three."""
    house = house_of(book, number)
    top, amounts, weights, bottom = greatest_earned(book, house, sizes)
    # The weights of the houses are the mix that takes in no more than the house shrunk so far.
    mix = [lowest(weight, bottom) for weight in weights[:-1]]
    return (lowest(top, bottom), mix, told_prices(house, sizes, amounts, bottom))


def growth(book, number, sizes):
    """The growth of a house, by sizes."""
    top, amounts, weights, bottom = greatest_given(book, house_of(book, number), sizes)
    return lowest(bottom, top)


def growth_shown(book, number, sizes):
    """The growth of a house, a mix and prices that show it: a tuple of the three."""
    house = house_of(book, number)
    top, amounts, weights, bottom = greatest_given(book, house, sizes)
    # All was found for a house that pays 1, so it is divided by the most that the gives came to.
    mix = [lowest(weight, top) for weight in weights[:-1]]
    return (lowest(bottom, top), mix, told_prices(house, sizes, amounts, top))
