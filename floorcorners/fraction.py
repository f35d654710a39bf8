"""FRACTIONs: pairs (top, bottom) of numbers in lowest terms, bottom from 1."""

from math import gcd


def lowest(top, bottom):
    """The FRACTION top / bottom, bottom from 1."""
    common = gcd(top, bottom)
    return (top // common, bottom // common)


def is_less(one, other):
    """Whether one quotient is less than another one, both with bottoms from 1."""
    return one[0] * other[1] < other[0] * one[1]


def greatest_quotient(found):
    """The first of the greatest of some tuples (top, bottom, ..), bottoms from 1."""
    return _most_of(found, 1)


def least_quotient(found):
    """The first of the least of some tuples (top, bottom, ..), bottoms from 1."""
    return _most_of(found, -1)


def _most_of(found, sign):
    """The first of those whose quotient with this sign is the greatest."""
    best = found[0]
    for other in found:
        if sign * (other[0] * best[1] - best[0] * other[1]) > 0:
            best = other
    return best


def tops_between(low, high, bottom):
    """The least and the greatest top with top / bottom strictly between; least above greatest if there is none."""
    return (low[0] * bottom // low[1] + 1, -(-high[0] * bottom // high[1]) - 1)


def simplest_between(low, high):
    """The FRACTION strictly between with the least bottom, of these the one nearest to 0."""
    if low[0] < 0 < high[0]:
        return (0, 1)
    if high[0] <= 0:
        top, bottom = simplest_between((-high[0], high[1]), (-low[0], low[1]))
        return (-top, bottom)
    top, bottom = low
    top_high, bottom_high = high
    wholes = []
    # While no whole number is strictly between: the same question for 1 / (what is behind the whole
    # number below), where the simplest stays the simplest. There the upper end may be endless (1 / 0).
    while (top // bottom + 1) * bottom_high >= top_high:
        whole = top // bottom
        wholes.append(whole)
        top, top_high = top - whole * bottom, top_high - whole * bottom_high
        top, bottom, top_high, bottom_high = bottom_high, top_high, bottom, top
    top, bottom = top // bottom + 1, 1
    for whole in reversed(wholes):
        top, bottom = whole * top + bottom, top
    return (top, bottom)
