"""Houses judged at prices: what they earn against what they pay."""

from rimhouse.fractions import compared, lowest
from rimhouse.prices import worths


def judged(book, prices):
    """For each house what it earns divided by what it pays, None where it pays nothing."""
    paid, given, size, bottom = worths(book, prices)
    return [None if pays == 0 else lowest(gives + size, pays) for pays, gives in zip(paid, given)]


def best_at(book, prices):
    """The rising list of the numbers of the houses judged highest, an empty one where none is judged."""
    told = judged(book, prices)
    best = None
    for one in told:
        if one is not None and (best is None or compared(one, best) > 0):
            best = one
    return [number for number, one in enumerate(told) if one is not None and one == best]
