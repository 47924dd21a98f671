"""Books of houses, and mixes of the houses of a book."""

from rimhouse.errors import NoHouse
from rimhouse.fractions import ONE, compared, lowest, over_one_bottom, total

MOST_HOUSES = 16
MOST_KINDS = 4
MOST_AMOUNT = 10 ** 9
SIZES = ("any", "one", "less", "more")


def is_whole(thing):
    """Whether a thing is a whole number."""
    return isinstance(thing, int) and not isinstance(thing, bool)


def are_amounts(thing, many, least):
    """Whether a thing is a tuple of so many amounts, each from the least one to the greatest one allowed."""
    if not isinstance(thing, tuple) or len(thing) != many:
        return False
    return all([is_whole(amount) and least <= amount <= MOST_AMOUNT for amount in thing])


def is_house(thing, many_takes, many_gives):
    """Whether a thing is a house with so many takes and gives."""
    if not isinstance(thing, tuple) or len(thing) != 2:
        return False
    takes, gives = thing
    if not (are_amounts(takes, many_takes, 1) and are_amounts(gives, many_gives, 0)):
        return False
    return any([give > 0 for give in gives])


def is_any_house(thing):
    """Whether a tuple of two tuples of whole numbers is a house, whatever its counts of takes and gives."""
    takes, gives = thing
    if not (1 <= len(takes) <= MOST_KINDS and 1 <= len(gives) <= MOST_KINDS):
        return False
    return is_house(thing, len(takes), len(gives))


def is_book(thing):
    """Whether a list of tuples of two tuples of whole numbers is a book."""
    if not 1 <= len(thing) <= MOST_HOUSES or not is_any_house(thing[0]):
        return False
    takes, gives = thing[0]
    return all([is_house(house, len(takes), len(gives)) for house in thing])


def house_of(book, number):
    """The house of this number."""
    # Asked by hand, since an index below 0 would tell a house from the end.
    if not 0 <= number < len(book):
        raise NoHouse(f"no house has the number {number}")
    return book[number]


def come_together(rows, tops, bottom):
    """What rows of amounts come to, kind by kind, each row multiplied by its top over the bottom."""
    sums = [sum([row[kind] * top for row, top in zip(rows, tops)]) for kind in range(len(rows[0]))]
    return [lowest(amount, bottom) for amount in sums]


def mixed(book, mix):
    """What a mix takes in and what it gives out: a tuple of two lists of fractions."""
    tops, bottom = over_one_bottom(mix)
    taken = come_together([takes for takes, gives in book], tops, bottom)
    given = come_together([gives for takes, gives in book], tops, bottom)
    return (taken, given)


def is_size_let(sizes, size):
    """Whether mixes of this size are let by one of the four texts for sizes."""
    against_one = compared(size, ONE)
    if sizes == "one":
        return against_one == 0
    if sizes == "less":
        return against_one <= 0
    if sizes == "more":
        return against_one >= 0
    return sizes == "any"


def is_mix(book, sizes, mix):
    """Whether a list of fractions is a mix for the book that is let."""
    if len(mix) != len(book):
        return False
    if any([top < 0 for top, bottom in mix]):
        return False
    return is_size_let(sizes, total(mix))
