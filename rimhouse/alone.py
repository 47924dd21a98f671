"""Single houses held against one another."""

from rimhouse.books import house_of
from rimhouse.fractions import NOUGHT, compared, lowest


def gives_no_less(house, other):
    """Whether a house gives out of each kind no less than another one."""
    return all([give >= wanted for give, wanted in zip(house[1], other[1])])


def covers_house(book, one, other):
    """Whether the house number one covers the house number other."""
    return gives_no_less(house_of(book, one), house_of(book, other))


def least_times(takes, others):
    """The least fraction by which the others are to be multiplied so that no take is more."""
    least = NOUGHT
    for take, other in zip(takes, others):
        times = lowest(take, other)
        if compared(times, least) > 0:
            least = times
    return least


def share_alone(book, number):
    """The share alone of a house, and the least number of a house that shows it."""
    house = house_of(book, number)
    best = None
    for other, single in enumerate(book):
        if gives_no_less(single, house):
            times = least_times(single[0], house[0])
            # A later house that does only as well is passed by, since the least number is told.
            if best is None or compared(times, best[0]) < 0:
                best = (times, other)
    return best
