"""What TOLD values leave open: which slopes, and which values at other numbers, the LINEs that fit have."""

from floorcorners.compare import first_above, last_above
from floorcorners.errors import NoLine
from floorcorners.fitting import as_tuples, end_lines, ends_of_slopes
from floorcorners.lines import value
from floorcorners.told import can_fit, line_for


def slope_range(told):
    """The two FRACTIONs between which all slopes fit; (None, None) for fewer than two TOLD values."""
    _need_fit(told)
    return ends_of_slopes(told) if len(told) > 1 else (None, None)


def value_range(told, n):
    """The least and the greatest value at n of the LINEs that fit; (None, None) if it can be any."""
    _need_fit(told)
    return _ranges(told, [n])[0]


def can_be(told, n, number):
    """Whether some LINE that fits has this value at n."""
    least, greatest = value_range(told, n)
    return least is None or least <= number <= greatest


def line_with(told, n, number):
    """A LINE that fits and has this value at n; None if there is none."""
    if not can_be(told, n, number):
        return None
    return line_for(sorted([pair for pair in as_tuples(told) if pair[0] != n] + [(n, number)]))


def sure_value(told, n):
    """The value at n if all LINEs that fit have the same one there, None otherwise."""
    least, greatest = value_range(told, n)
    return least if least == greatest else None


def all_sure(told, stretch):
    """Whether the value is sure at all n of the STRETCH."""
    return first_open(told, stretch) is None


def first_open(told, stretch):
    """The least n of the STRETCH at which the value is not sure; None if there is none."""
    _need_fit(told)
    if len(told) < 2:
        return min(_untold(told, stretch), default=None)
    found = [first_above(upper, lower, stretch) for lower, upper in _pairs_of_ends(told)]
    return min([n for n in found if n is not None], default=None)


def last_open(told, stretch):
    """The greatest n of the STRETCH at which the value is not sure; None if there is none."""
    _need_fit(told)
    if len(told) < 2:
        return max(_untold(told, stretch), default=None)
    found = [last_above(upper, lower, stretch) for lower, upper in _pairs_of_ends(told)]
    return max([n for n in found if n is not None], default=None)


def sure_in(told, stretch):
    """The ascending tuple of the n of the STRETCH at which the value is sure."""
    _need_fit(told)
    numbers = list(range(stretch[0], stretch[1] + 1))
    ranges = _ranges(told, numbers)
    return tuple([n for n, (least, greatest) in zip(numbers, ranges) if least is not None and least == greatest])


def best_look(told, stretch):
    """The least n of the STRETCH at which the most values can be."""
    _need_fit(told)
    numbers = list(range(stretch[0], stretch[1] + 1))
    rooms = []
    for n, (least, greatest) in zip(numbers, _ranges(told, numbers)):
        if least is None:
            return n
        rooms.append(greatest - least)
    return numbers[rooms.index(max(rooms))]


def _need_fit(told):
    if not can_fit(told):
        raise NoLine()


def _ranges(told, numbers):
    """The least and the greatest value at each of the numbers; None in the place of both if it can be any."""
    if len(told) < 2:
        known = {n: number for n, number in told}
        return [(known.get(n), known.get(n)) for n in numbers]
    lowers, uppers = end_lines(told)
    return [(min([value(line, n) for line in lowers]), max([value(line, n) for line in uppers])) for n in numbers]


def _untold(told, stretch):
    """Of the numbers of the STRETCH those that are not told: only the two next to each end, one may be told."""
    first, last = stretch
    told_numbers = [n for n, _ in told]
    return [n for n in (first, first + 1, last - 1, last) if first <= n <= last and n not in told_numbers]


def _pairs_of_ends(told):
    """All pairs of a LINE that the least values are of and one that the greatest are of."""
    lowers, uppers = end_lines(told)
    return [(lower, upper) for lower in lowers for upper in uppers]
