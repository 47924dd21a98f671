"""Exact fractions: tuples (top, bottom) in lowest terms, bottom from 1 on."""

NOUGHT = (0, 1)
ONE = (1, 1)


def common_divisor(one, other):
    """The greatest number that divides both; 0 where both are 0."""
    while other != 0:
        one, other = other, one % other
    return abs(one)


def lowest(top, bottom):
    """The fraction of two whole numbers, in lowest terms."""
    if bottom == 0:
        raise ZeroDivisionError("no fraction has a bottom of nought")
    divisor = common_divisor(top, bottom)
    if bottom < 0:
        divisor = -divisor
    return (top // divisor, bottom // divisor)


def added(one, other):
    """The sum of two fractions."""
    return lowest(one[0] * other[1] + other[0] * one[1], one[1] * other[1])


def less_by(one, other):
    """The first fraction less the second one."""
    return lowest(one[0] * other[1] - other[0] * one[1], one[1] * other[1])


def multiplied(one, other):
    """The first fraction multiplied by the second one."""
    return lowest(one[0] * other[0], one[1] * other[1])


def divided(one, other):
    """The first fraction divided by the second one, which is not nought."""
    return lowest(one[0] * other[1], one[1] * other[0])


def compared(one, other):
    """-1, 0 or 1: the first fraction is less than, like or more than the second one."""
    left = one[0] * other[1]
    right = other[0] * one[1]
    if left < right:
        return -1
    if left > right:
        return 1
    return 0


def over_one_bottom(ones):
    """The tops of all fractions over one bottom, and that bottom, the least there is."""
    shared = 1
    for top, bottom in ones:
        # The smaller number stands second, so the first step makes both small.
        shared = shared // common_divisor(shared, bottom) * bottom
    return ([top * (shared // bottom) for top, bottom in ones], shared)


def total(ones):
    """The sum of a list of fractions."""
    # Lowest terms are sought once, for the whole sum, since that is the dear step.
    tops, bottom = over_one_bottom(ones)
    return lowest(sum(tops), bottom)
