"""TOLD values, ascending tuples of pairs (n, value), and the LINEs that have them."""

from itertools import combinations

from floorcorners.errors import NoLine
from floorcorners.fitting import as_tuples, ends_of_slopes, three_fit
from floorcorners.fraction import is_less, simplest_between, tops_between
from floorcorners.lines import is_line, is_numbers, value


def is_told(thing):
    """Whether thing is an ascending tuple of pairs of numbers, no n twice."""
    if not isinstance(thing, tuple) or not all([is_numbers(pair, 2) for pair in thing]):
        return False
    return all([left[0] < right[0] for left, right in zip(thing, thing[1:])])


def is_line_for(told, thing):
    """Whether thing is a LINE that has the TOLD values."""
    return is_line(thing) and all([value(thing, n) == number for n, number in told])


def line_for(told):
    """Of the LINEs that have the TOLD values the one with the least d, then a nearest to 0, then the least b."""
    if not can_fit(told):
        raise NoLine()
    if len(told) < 2:
        return (0, told[0][1] if told else 0, 1)
    low, high = ends_of_slopes(told)
    a, d = simplest_between(low, high)
    return (a, add_span(told, a, d)[0], d)


def can_fit(told):
    """Whether some LINE has the TOLD values."""
    if len(told) < 2:
        return True
    low, high = ends_of_slopes(told)
    return is_less(low, high)


def add_span(told, a, d):
    """The least and the greatest b such that (a, b, d) has the TOLD values; None if there is none."""
    if not told:
        return (None, None)
    least = max([d * number - a * n for n, number in told])
    greatest = min([d * number - a * n for n, number in told]) + d - 1
    return (least, greatest) if least <= greatest else None


def how_many_having(told, d):
    """How many LINEs with this d have the TOLD values; None if there are fewer than two pairs."""
    if len(told) < 2:
        return None
    return sum([greatest - least + 1 for _, least, greatest in _spans(told, d)])


def lines_with(told, d):
    """The ascending list of the LINEs with this d that have the TOLD values, two pairs or more."""
    return [(a, b, d) for a, least, greatest in _spans(told, d) for b in range(least, greatest + 1)]


def between(one, other, n):
    """The values at n, a number between, of the LINEs that have both pairs."""
    wide = other[0] - one[0]
    if wide == 0:
        return (one[1],)
    top = one[1] * (other[0] - n) + other[1] * (n - one[0])
    least, greatest = top // wide, -(-top // wide)
    return (least,) if least == greatest else (least, greatest)


def three_that_bar(told):
    """The least set of three of the pairs that no LINE has; None if some LINE has all."""
    pairs = list(as_tuples(told))
    for three in combinations(pairs, 3):
        left, middle, right = three
        if not three_fit(left, middle, right):
            return three
    return None


def is_barring(told, thing):
    """Whether thing is a set of three of the pairs that no LINE has."""
    if not is_told(thing) or len(thing) != 3:
        return False
    left, middle, right = thing
    return all([pair in as_tuples(told) for pair in thing]) and not three_fit(left, middle, right)


def least_left_out(told):
    """The least of the sets of as few pairs as can be without which some LINE has all others."""
    pairs = list(as_tuples(told))
    for many in range(len(pairs) + 1):
        for left_out in combinations(pairs, many):
            if can_fit([pair for pair in pairs if pair not in left_out]):
                return left_out


def _spans(told, d):
    """Triples (a, least b, greatest b) of all a with which LINEs with this d have two or more TOLD values."""
    low, high = ends_of_slopes(told)
    least, greatest = tops_between(low, high, d)
    return [(a,) + add_span(told, a, d) for a in range(least, greatest + 1)]
