"""Prices: what houses earn and pay at them, and what is greatest at prices that let no house do better."""

from rimhouse.fractions import lowest, over_one_bottom
from rimhouse.greatest import greatest

# A price for size is sought as amounts of 0 or above, each counted with one of these signs.
SIZE_SIGNS = {"any": (), "one": (1, -1), "less": (-1,), "more": (1,)}


def is_for_size_let(sizes, for_size):
    """Whether a fraction may be the price for size by these sizes."""
    if sizes == "any":
        return for_size[0] == 0
    if sizes == "less":
        return for_size[0] <= 0
    if sizes == "more":
        return for_size[0] >= 0
    return sizes == "one"


def are_prices(book, sizes, prices):
    """Whether two lists of fractions and a fraction are prices for the book by these sizes."""
    for_takes, for_gives, for_size = prices
    takes, gives = book[0]
    if len(for_takes) != len(takes) or len(for_gives) != len(gives):
        return False
    if any([top < 0 for top, bottom in for_takes + for_gives]):
        return False
    return is_for_size_let(sizes, for_size)


def come_to(amounts, tops):
    """What amounts come to, each multiplied by its top."""
    return sum([amount * top for amount, top in zip(amounts, tops)])


def worths(book, prices):
    """What the houses pay, what their gives come to, the price for size, and one: all over one bottom.

    Told is a tuple of two lists of whole numbers, one of each for each house, and two whole numbers.
    """
    for_takes, for_gives, for_size = prices
    tops, bottom = over_one_bottom(for_takes + for_gives + [for_size])
    many = len(for_takes)
    paid = [come_to(takes, tops[:many]) for takes, gives in book]
    given = [come_to(gives, tops[many:-1]) for takes, gives in book]
    return (paid, given, tops[-1], bottom)


def does_no_house_better(paid, given, size):
    """Whether no house earns more than it pays, by what worths tells."""
    return all([gives + size <= pays for pays, gives in zip(paid, given)])


def house_rows(houses, sizes):
    """For each house the row that comes, at amounts for prices, to what it earns less what it pays."""
    signs = list(SIZE_SIGNS[sizes])
    return [[-take for take in takes] + list(gives) + signs for takes, gives in houses]


def greatest_earned(houses, house, sizes):
    """The most that a house can earn where it pays no more than 1 and none of the houses does better.

    Told is what greatest tells, with a weight for each of the houses and one for the pay; None where
    there is no most.
    """
    takes, gives = house
    signs = list(SIZE_SIGNS[sizes])
    earned = [0] * len(takes) + list(gives) + signs
    paid = list(takes) + [0] * len(gives) + [0] * len(signs)
    return greatest(earned, house_rows(houses, sizes) + [paid], [0] * len(houses) + [1])


def greatest_given(houses, house, sizes):
    """The most that a house's gives can come to where it pays, less the price for size, no more than 1.

    None of the houses, of which it is one, may do better. Told is what greatest tells, with a weight
    for each of the houses and one for the pay.
    """
    takes, gives = house
    signs = list(SIZE_SIGNS[sizes])
    given = [0] * len(takes) + list(gives) + [0] * len(signs)
    paid = list(takes) + [0] * len(gives) + [-sign for sign in signs]
    return greatest(given, house_rows(houses, sizes) + [paid], [0] * len(houses) + [1])


def greatest_floor(houses, number, sizes):
    """The greatest floor, no more than 1, under all prices for takes and gives at which a house stands firm.

    It stands firm where it earns no less than it pays, and none of the houses, of which it is one, does
    better. Told is what greatest tells, with amounts for what the prices lie above the floor, in the order
    of house_rows, and one for the floor, and with weights for the houses, for this house's standing
    firm, and for the floor. By prices times as much a floor above 0 is 1, so it is 1 or 0.
    """
    rows = house_rows(houses, sizes)
    floors = [sum(gives) - sum(takes) for takes, gives in houses]
    rows = [row + [floor] for row, floor in zip(rows, floors)]
    firm = [-one for one in rows[number]]
    goal = [0] * (len(firm) - 1) + [1]
    return greatest(goal, rows + [firm, goal], [0] * len(houses) + [0, 1])


def told_prices(house, sizes, amounts, bottom):
    """Prices out of the amounts that were found for them, in the order of house_rows."""
    takes, gives = house
    behind_gives = len(takes) + len(gives)
    for_takes = [lowest(amount, bottom) for amount in amounts[:len(takes)]]
    for_gives = [lowest(amount, bottom) for amount in amounts[len(takes):behind_gives]]
    return (for_takes, for_gives, lowest(come_to(amounts[behind_gives:], SIZE_SIGNS[sizes]), bottom))
