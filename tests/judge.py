"""What the document's words ask of mixes and prices, reckoned plainly, and many books to try them at.

Nothing here stands on the program: all is reckoned with Python's own fractions.
"""

import copy
import functools
import random
from fractions import Fraction

SIZES = ("any", "one", "less", "more")
MOST = 10 ** 9


def told(value):
    """A fraction as the program tells it."""
    value = Fraction(value)
    return (value.numerator, value.denominator)


def read(one):
    return Fraction(one[0], one[1])


def is_fraction(one):
    return (
        type(one) is tuple and len(one) == 2 and type(one[0]) is int and type(one[1]) is int
        and one[1] >= 1 and told(Fraction(*one)) == one
    )


def is_list_of_fractions(thing, many):
    return type(thing) is list and len(thing) == many and all(is_fraction(one) for one in thing)


def are_prices_in_form(book, prices):
    return (
        type(prices) is tuple and len(prices) == 3
        and is_list_of_fractions(prices[0], len(book[0][0]))
        and is_list_of_fractions(prices[1], len(book[0][1]))
        and is_fraction(prices[2])
    )


# Mixes [5, 7, 10]

def is_let(book, sizes, mix):
    parts = [read(one) for one in mix]
    if len(parts) != len(book) or any(part < 0 for part in parts):
        return False
    size = sum(parts, Fraction(0))
    return {"any": True, "one": size == 1, "less": size <= 1, "more": size >= 1}[sizes]


def sums(book, side, mix):
    kinds = range(len(book[0][side]))
    return [sum((read(part) * house[side][kind] for house, part in zip(book, mix)), Fraction(0)) for kind in kinds]


def does(book, number, sizes, shrunk, grown, mix):
    """Whether a mix that is let takes in no more than the shrunk house, and gives out no less than the grown one."""
    if not is_let(book, sizes, mix):
        return False
    takes, gives = book[number]
    taken, given = sums(book, 0, mix), sums(book, 1, mix)
    return (
        all(had <= take * shrunk for had, take in zip(taken, takes))
        and all(had >= give * grown for had, give in zip(given, gives))
    )


def mix_shows(book, number, sizes, fraction, mix):
    return does(book, number, sizes, read(fraction), 1, mix)


def mix_grows(book, number, sizes, fraction, mix):
    return does(book, number, sizes, 1, read(fraction), mix)


def beats(book, number, sizes, mix):
    if not does(book, number, sizes, 1, 1, mix):
        return False
    takes, gives = book[number]
    return sums(book, 0, mix) != list(takes) or sums(book, 1, mix) != list(gives)


# Prices [8, 10]

def are_prices(book, sizes, prices):
    for_takes, for_gives, for_size = prices
    if len(for_takes) != len(book[0][0]) or len(for_gives) != len(book[0][1]):
        return False
    if any(read(one) < 0 for one in for_takes + for_gives):
        return False
    size = read(for_size)
    return {"any": size == 0, "one": True, "less": size <= 0, "more": size >= 0}[sizes]


def comes_to(amounts, prices):
    return sum((amount * read(price) for amount, price in zip(amounts, prices)), Fraction(0))


def pays(house, prices):
    return comes_to(house[0], prices[0])


def earns(house, prices):
    return comes_to(house[1], prices[1]) + read(prices[2])


def are_prices_at_which_none_does_better(book, sizes, prices):
    return are_prices(book, sizes, prices) and all(earns(house, prices) <= pays(house, prices) for house in book)


def prices_show(book, number, sizes, fraction, prices):
    if not are_prices_at_which_none_does_better(book, sizes, prices):
        return False
    house = book[number]
    return pays(house, prices) == 1 and earns(house, prices) == read(fraction)


def prices_grow(book, number, sizes, fraction, prices):
    if not are_prices_at_which_none_does_better(book, sizes, prices):
        return False
    house = book[number]
    return comes_to(house[1], prices[1]) == 1 and pays(house, prices) - read(prices[2]) == read(fraction)


def prices_rim(book, number, sizes, prices):
    if not are_prices_at_which_none_does_better(book, sizes, prices):
        return False
    house = book[number]
    return all(read(one) > 0 for one in prices[0] + prices[1]) and earns(house, prices) == pays(house, prices)


# A house out of the way [11, 20]

# More times over than any mix of other houses could take in what a house takes in.
FAR = 10 ** 20


def swollen(house):
    """The house, taking in so much more that no mix gains by it, unless it must."""
    takes, gives = house
    return (tuple(take * FAR for take in takes), gives)


# Numbers that are none of a house [4]

def no_houses(book):
    many = len(book)
    return (-1, -2, -many, -many - 1, many, many + 1, 10 ** 9, 10 ** 39, -10 ** 39)


# Texts that are not so written of any house [14]

GOOD_SIDES = ("1", "1000000000", "3,40", "1,2,3,4", "999999999,1,7")
BAD_NUMBERS = (
    "", " ", "-1", "+1", "01", "00", "007", "1000000001", "9999999999", "10000000000", "00000000001", "1.0", "1e3",
    "0x1", "1_0", "a", "1 ", " 1", "1\t", "\t1", "1;2", "~", "1/2", "--1", "\u0663", "\u00b2", "\uff11",
)
BAD_SIDES = BAD_NUMBERS + (
    ",", "1,", ",1", "1,,2", "1, 2", "1 ,2", "1 2", "1,2,3,4,5", "1,1,1,1,1,1,1,1", "1,a", "1,01", "1,1000000001",
)
BAD_TAKES = BAD_SIDES + ("0", "0,1", "1,0", "1,2,3,0", "0,0")
BAD_GIVES = BAD_SIDES + ("0", "0,0", "0,0,0", "0,0,0,0", "0,0,0,0,1", "0,01", "00,1")
BAD_HOUSES = tuple(
    [take + ">" + give for take in BAD_TAKES for give in GOOD_SIDES]
    + [take + ">" + give for take in GOOD_SIDES for give in BAD_GIVES]
    + ["", ">", "1", "1,1", "1,2,3", "1>1>1", "1>>1", ">1>1", "1>1>", "1<1", "1>1,", "(1)>1", "1>1\n1", "1-1", "1:1"]
)


# Books to try

def amounts(chance, many, low, high):
    return tuple(chance.randint(low, high) for kind in range(many))


def gives_with_noughts(chance, many, high):
    gives = [chance.choice((0, 0, chance.randint(1, high))) for kind in range(many)]
    gives[chance.randrange(many)] = chance.randint(1, high)
    return tuple(gives)


def small(chance, many, takes, gives):
    return [(amounts(chance, takes, 1, 6), amounts(chance, gives, 1, 6)) for number in range(many)]


def great(chance, many, takes, gives):
    return [(amounts(chance, takes, 1, MOST), amounts(chance, gives, 0, MOST - 1)) for number in range(many)]


def noughts(chance, many, takes, gives):
    high = chance.choice((3, 9, MOST))
    return [(amounts(chance, takes, 1, high), gives_with_noughts(chance, gives, high)) for number in range(many)]


def alike(chance, many, takes, gives):
    few = small(chance, max(1, many // 3), takes, gives)
    return [chance.choice(few) for number in range(many)]


def multiples(chance, many, takes, gives):
    few = noughts(chance, max(1, many // 3), takes, gives)
    few = [[[one // 20 + 1 for one in house[0]], [-(-one // 20) for one in house[1]]] for house in few]
    book = []
    for number in range(many):
        of_takes, of_gives = chance.choice(few)
        times = chance.randint(1, 19)
        book.append((tuple(one * times for one in of_takes), tuple(one * times for one in of_gives)))
    return book


def all_but_alike(chance, many, takes, gives):
    base = (amounts(chance, takes, MOST // 2, MOST - 1), amounts(chance, gives, MOST // 2, MOST - 1))
    return [
        tuple(tuple(one + chance.choice((-1, 0, 0, 1)) for one in side) for side in base) for number in range(many)
    ]


WAYS = (small, great, noughts, alike, multiples, all_but_alike)
ALL_COUNTS = tuple((takes, gives) for takes in (1, 2, 3, 4) for gives in (1, 2, 3, 4))
SOME_COUNTS = ((1, 1), (2, 2), (1, 4), (4, 1), (3, 2), (4, 4))
FEW_COUNTS = ((1, 2), (3, 3), (4, 4))

# By hand: one take and one give, so that each share can be seen.
LINE = [((2,), (2,)), ((4,), (6,)), ((8,), (8,))]
# The last house has the share 1, by all sizes, and is beaten all the same.
FLAT = [((2, 2), (1,)), ((2, 3), (1,)), ((1, 4), (1,)), ((1, 5), (1,))]


def drawn(seed, plan):
    """Books of each way for each count of houses and each of its counts of takes and gives."""
    chance = random.Random(seed)
    return [
        way(chance, many, takes, gives)
        for many, counts in plan for takes, gives in counts for way in WAYS
    ]


@functools.lru_cache(maxsize=None)
def kept_books(light):
    plan = [(1, SOME_COUNTS), (2, SOME_COUNTS), (3, FEW_COUNTS), (8, FEW_COUNTS[1:])]
    if not light:
        plan = [(1, ALL_COUNTS), (2, ALL_COUNTS), (5, SOME_COUNTS), (8, SOME_COUNTS), (16, SOME_COUNTS)]
    return [LINE, FLAT] + drawn(20 if light else 10, plan)


def many_books():
    """Books of 1, 2, 5, 8 and 16 houses."""
    return copy.deepcopy(kept_books(False))


def some_books():
    """Fewer ones, of up to 8 houses, for what is asked many times over."""
    return copy.deepcopy(kept_books(True))


# Mixes and prices that are spoilt

LITTLE = Fraction(1, 10 ** 40)


def moved(fractions, place, by):
    """The list with one of its fractions moved a little."""
    return fractions[:place] + [told(read(fractions[place]) + by)] + fractions[place + 1:]


def bent(fractions):
    """Lists like this one with one fraction a little more, a little less, far more, doubled, or 0."""
    for place, one in enumerate(fractions):
        for by in (LITTLE, -LITTLE, 1, read(one), -read(one)):
            yield moved(fractions, place, by)


def broken(fractions):
    """Lists that are no mix and no prices for kinds, whatever else: one below 0, left out or put in."""
    for place, one in enumerate(fractions):
        yield moved(fractions, place, -read(one) - LITTLE)
        yield moved(fractions, place, -read(one) - 1)
        yield fractions[:place] + fractions[place + 1:]
        yield fractions[:place] + [(0, 1)] + fractions[place:]
    yield fractions + [(0, 1)]
    yield fractions + [(1, 1)]
    yield []


def bent_prices(prices):
    for_takes, for_gives, for_size = prices
    for one in bent(for_takes):
        yield (one, for_gives, for_size)
    for one in bent(for_gives):
        yield (for_takes, one, for_size)
    for by in (LITTLE, -LITTLE, 1, -1, -read(for_size), -2 * read(for_size)):
        yield (for_takes, for_gives, told(read(for_size) + by))
    yield (for_gives, for_takes, for_size)
    # All of them times as much: that keeps the balance of each house.
    for times in (2, Fraction(1, 2), 0):
        yield (
            [told(read(one) * times) for one in for_takes],
            [told(read(one) * times) for one in for_gives],
            told(read(for_size) * times),
        )


def broken_prices(prices, sizes):
    """Prices that are none for the book by these sizes."""
    for_takes, for_gives, for_size = prices
    for one in broken(for_takes):
        yield (one, for_gives, for_size)
    for one in broken(for_gives):
        yield (for_takes, one, for_size)
    for size in {"any": ((1, 10 ** 40), (-1, 10 ** 40)), "less": ((1, 10 ** 40), (1, 1)),
                 "more": ((-1, 10 ** 40), (-1, 1)), "one": ()}[sizes]:
        yield (for_takes, for_gives, size)
