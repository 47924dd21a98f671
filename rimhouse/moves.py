"""Houses held against another book, and how far they have moved from one book to another one."""

from rimhouse.books import house_of
from rimhouse.errors import NoBook
from rimhouse.fractions import divided, multiplied
from rimhouse.shares import held_against


def are_like_counts(house, other):
    """Whether two houses have as many takes and as many gives as one another."""
    return len(house[0]) == len(other[0]) and len(house[1]) == len(other[1])


def share_against(book, house, sizes):
    """The share of a house by mixes of a book in which it need not stand, None where none gives out as much."""
    if not are_like_counts(book[0], house):
        raise NoBook("the house has other counts of takes and gives than the book")
    return held_against(book, house, sizes)


def moved(before, after, number, sizes):
    """How far a house has moved from one book to another one: a tuple (catch, rim)."""
    if not are_like_counts(before[0], after[0]):
        raise NoBook("the two books have unlike counts of takes and gives")
    ahead = house_of(before, number)
    behind = house_of(after, number)
    share_ahead = held_against(before, ahead, sizes)
    share_behind = held_against(after, behind, sizes)
    catch = divided(share_behind, share_ahead)
    first = held_against(before, behind, sizes)
    second = held_against(after, ahead, sizes)
    if first is None or second is None:
        return (catch, None)
    return (catch, multiplied(divided(first, share_behind), divided(share_ahead, second)))
