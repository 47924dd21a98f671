"""What a list of houses is when one has come, gone or been altered."""

from rimhouse.books import MOST_HOUSES, house_of, is_house
from rimhouse.errors import NoBook, TooMany


def refuse_unfit(thing, many_takes, many_gives):
    """Refuses what is no house with so many takes and gives."""
    if not is_house(thing, many_takes, many_gives):
        raise NoBook(f"this is no house with {many_takes} takes and {many_gives} gives")


def with_one_more(houses, house, many_takes, many_gives):
    """The houses with another one, of so many takes and gives, behind all of them."""
    refuse_unfit(house, many_takes, many_gives)
    if len(houses) >= MOST_HOUSES:
        raise TooMany(f"there are {MOST_HOUSES} houses, and no more may come")
    return houses + [house]


def without(houses, number):
    """The houses but the one of this number."""
    house_of(houses, number)
    return houses[:number] + houses[number + 1:]


def with_another(houses, number, house, many_takes, many_gives):
    """The houses with another one, of so many takes and gives, in the place of the one of this number."""
    house_of(houses, number)
    refuse_unfit(house, many_takes, many_gives)
    return houses[:number] + [house] + houses[number + 1:]
