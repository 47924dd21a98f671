"""Which houses stand on the rim, with prices that show it, and which are beaten, with a mix that beats them."""

from rimhouse.books import house_of, mixed
from rimhouse.fractions import ONE, lowest
from rimhouse.papers import does_as_much
from rimhouse.prices import are_prices, does_no_house_better, greatest_floor, told_prices, worths


def on_rim(book, number, sizes):
    """("rim", prices) where the house stands on the rim, ("beaten", mix) where it does not."""
    takes, gives = house_of(book, number)
    floor, amounts, weights, bottom = greatest_floor(book, number, sizes)
    if floor > 0:
        kinds = len(takes) + len(gives)
        raised = [amount + floor for amount in amounts[:kinds]]
        return ("rim", told_prices(book[number], sizes, raised + amounts[kinds:-1], bottom))
    # The weights beat the house as many times over as its own standing firm weighs.
    return ("beaten", [lowest(weight, weights[-2]) for weight in weights[:-2]])


def rim_of(book, sizes):
    """The rising list of the numbers of the houses on the rim."""
    return [number for number in range(len(book)) if greatest_floor(book, number, sizes)[0] > 0]


def beats(book, number, sizes, mix):
    """Whether a list of fractions is a mix that beats the house."""
    if not does_as_much(book, number, sizes, ONE, ONE, mix):
        return False
    takes, gives = book[number]
    return mixed(book, mix) != ([(take, 1) for take in takes], [(give, 1) for give in gives])


def prices_rim(book, number, sizes, prices):
    """Whether two lists of fractions and a fraction are prices that show that the house stands on the rim."""
    house_of(book, number)
    if not are_prices(book, sizes, prices) or any([top == 0 for top, bottom in prices[0] + prices[1]]):
        return False
    paid, given, size, bottom = worths(book, prices)
    return does_no_house_better(paid, given, size) and given[number] + size == paid[number]
