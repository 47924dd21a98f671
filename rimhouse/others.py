"""What a house is worth against the others alone."""

from rimhouse.books import house_of
from rimhouse.fractions import lowest
from rimhouse.prices import greatest_earned


def share_of_others(book, number, sizes):
    """The share of a house by mixes of the others alone, None where none of them gives out as much."""
    house = house_of(book, number)
    found = greatest_earned(book[:number] + book[number + 1:], house, sizes)
    # Where no mix gives out as much, prices can be found at which the house earns as much as one likes.
    if found is None:
        return None
    top, amounts, weights, bottom = found
    return lowest(top, bottom)
