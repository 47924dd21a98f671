"""Whether a mix, or prices, show a share or a growth of a house."""

from rimhouse.books import house_of, is_mix, mixed
from rimhouse.fractions import ONE, compared, lowest
from rimhouse.prices import are_prices, does_no_house_better, worths


def times(amounts, fraction):
    """Whole amounts, each multiplied by a fraction."""
    return [lowest(amount * fraction[0], fraction[1]) for amount in amounts]


def are_no_more(ones, others):
    """Whether each of the fractions is no more than the one at its place among the others."""
    return all([compared(one, other) <= 0 for one, other in zip(ones, others)])


def does_as_much(book, number, sizes, shrunk, grown, mix):
    """Whether a mix that is let takes in no more than the house's takes multiplied by shrunk, and
    gives out no less than its gives multiplied by grown.
    """
    takes, gives = house_of(book, number)
    if not is_mix(book, sizes, mix):
        return False
    taken, given = mixed(book, mix)
    return are_no_more(taken, times(takes, shrunk)) and are_no_more(times(gives, grown), given)


def mix_shows(book, number, sizes, fraction, mix):
    """Whether a list of fractions is a mix that shows the share of a house."""
    return does_as_much(book, number, sizes, fraction, ONE, mix)


def mix_grows(book, number, sizes, fraction, mix):
    """Whether a list of fractions is a mix that shows the growth of a house."""
    return does_as_much(book, number, sizes, ONE, fraction, mix)


def prices_show(book, number, sizes, fraction, prices):
    """Whether two lists of fractions and a fraction are prices that show the share of a house."""
    house_of(book, number)
    if not are_prices(book, sizes, prices):
        return False
    paid, given, size, bottom = worths(book, prices)
    if not does_no_house_better(paid, given, size) or paid[number] != bottom:
        return False
    return (given[number] + size) * fraction[1] == fraction[0] * bottom


def prices_grow(book, number, sizes, fraction, prices):
    """Whether two lists of fractions and a fraction are prices that show the growth of a house."""
    house_of(book, number)
    if not are_prices(book, sizes, prices):
        return False
    paid, given, size, bottom = worths(book, prices)
    if not does_no_house_better(paid, given, size) or given[number] != bottom:
        return False
    return (paid[number] - size) * fraction[1] == fraction[0] * bottom
