"""Houses put together into one."""

from rimhouse.books import MOST_AMOUNT, house_of
from rimhouse.errors import TooMany


def together(rows):
    """Rows of amounts, added kind by kind."""
    return tuple([sum([row[kind] for row in rows]) for kind in range(len(rows[0]))])


def merged(book, numbers):
    """The book with some of its houses, a list of unlike numbers, put together in the place of the first one."""
    houses = [house_of(book, number) for number in numbers]
    takes = together([house[0] for house in houses])
    gives = together([house[1] for house in houses])
    if max(takes + gives) > MOST_AMOUNT:
        raise TooMany("put together the houses take in, or give out, more than there may be of an amount")
    place = min(numbers)
    told = list(book)
    told[place] = (takes, gives)
    return [house for number, house in enumerate(told) if number == place or number not in numbers]
