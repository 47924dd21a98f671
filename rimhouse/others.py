"""What a house is worth against the others alone."""

from rimhouse.books import house_of
from rimhouse.deeds import without
from rimhouse.shares import held_against


def share_of_others(book, number, sizes):
    """The share of a house by mixes of the others alone, None where none of them gives out as much."""
    house = house_of(book, number)
    return held_against(without(book, number), house, sizes)
