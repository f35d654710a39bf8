"""All LINEs that serve for a LINE on a STRETCH: that have the same values there."""

from floorcorners.compare import same_on
from floorcorners.corners import greatest_of, least_of, lower_corners, upper_corners
from floorcorners.errors import NoNumber
from floorcorners.fitting import steepest_bar
from floorcorners.fraction import lowest, simplest_between, tops_between
from floorcorners.lines import is_numbers, mirrored, value


def slopes(line, stretch):
    """The two FRACTIONs between which all slopes serve; (None, None) for a STRETCH of one number."""
    found = bars(line, stretch)
    if found is None:
        return (None, None)
    return (_slope_of_bar(line, found[0], -1), _slope_of_bar(line, found[1], 1))


def bars(line, stretch):
    """The pairs of numbers from which the two slopes come; None for a STRETCH of one number."""
    first, last = stretch
    if first == last:
        return None
    m, n = _bar_below(mirrored(line), (-last, -first))
    return (_bar_below(line, stretch), (-n, -m))


def is_bars(line, stretch, thing):
    """Whether thing is a pair of pairs of numbers from which the two slopes come."""
    first, last = stretch
    if not isinstance(thing, tuple) or len(thing) != 2 or not all([is_numbers(bar, 2) for bar in thing]):
        return False
    if not all([first <= m < n <= last for m, n in thing]):
        return False
    return (_slope_of_bar(line, thing[0], -1), _slope_of_bar(line, thing[1], 1)) == slopes(line, stretch)


def least_line(line, stretch):
    """The LINE with the least d that serves."""
    low, high = slopes(line, stretch)
    if low is None:
        return (0, value(line, stretch[0]), 1)
    a, d = simplest_between(low, high)
    return (a, additions(line, stretch, a, d)[0], d)


def how_many_lines(line, stretch, d):
    """How many LINEs with this d serve; None for a STRETCH of one number."""
    if stretch[0] == stretch[1]:
        return None
    return sum([_how_many_in(line, stretch, d, span) for span in _even_spans(line, stretch, d)])


def nth_line(line, stretch, d, number):
    """The LINE with this number among those with this d that serve."""
    if number < 0 or stretch[0] == stretch[1]:
        raise NoNumber(number)
    left = number
    for span in _even_spans(line, stretch, d):
        many = _how_many_in(line, stretch, d, span)
        if left < many:
            return _line_in(line, stretch, d, span, left)
        left -= many
    raise NoNumber(number)


def number_of_line(line, stretch, other):
    """The number of other among those with its d that serve; None if there is none."""
    if stretch[0] == stretch[1] or not same_on(line, other, stretch):
        return None
    a, b, d = other
    number = b - additions(line, stretch, a, d)[0]
    for start, end in _even_spans(line, stretch, d):
        if start < a:
            number += _how_many_in(line, stretch, d, (start, min(end, a - 1)))
    return number


def additions(line, stretch, a, d):
    """The least and the greatest b for which (a, b, d) serves; None if there is none."""
    least = greatest_of(line, stretch, -a, d)[0]
    greatest = least_of(line, stretch, -a, d)[0] + d - 1
    return (least, greatest) if least <= greatest else None


def looks(line, stretch):
    """At most four n of the STRETCH such that all LINEs with the values of line there serve."""
    a, _, d = least_line(line, stretch)
    # a * n - d * (value at n) is the remainder of the least LINE, but for its b.
    _, first_least, last_least = least_of(line, stretch, a, -d)
    _, first_greatest, last_greatest = greatest_of(line, stretch, a, -d)
    return tuple(sorted(set([first_least, last_least, first_greatest, last_greatest])))


def _slope_of_bar(line, bar, more):
    """The slope from the value at the first number of the bar to that at the second one and so much more."""
    m, n = bar
    return lowest(value(line, n) - value(line, m) + more, n - m)


def _bar_below(line, stretch):
    """Two numbers m, n of the STRETCH with the greatest (y - x - 1) / (n - m)."""
    left, right = steepest_bar(lower_corners(line, stretch), upper_corners(line, stretch))
    return (left[0], right[0])


def _even_spans(line, stretch, d):
    """Pairs (least, greatest) of all a of the LINEs with this d that serve, ascending.

    From one a to the next one of a span the number of the b grows by the same.
    """
    low, high = slopes(line, stretch)
    least, greatest = tops_between(low, high, d)
    if least > greatest:
        return []
    # Between the slopes of two edges the same CORNERs decide about b.
    corners = [upper_corners(line, stretch), lower_corners(line, stretch)]
    edges = [edge for chain in corners for edge in zip(chain, chain[1:])]
    cuts = sorted({d * (right[1] - left[1]) // (right[0] - left[0]) for left, right in edges})
    cuts = [cut for cut in cuts if least <= cut < greatest]
    return list(zip([least] + [cut + 1 for cut in cuts], cuts + [greatest]))


def _how_many_with(line, stretch, d, a):
    """How many LINEs with these a and d serve, a within a span."""
    least, greatest = additions(line, stretch, a, d)
    return greatest - least + 1


def _how_many_in(line, stretch, d, span):
    """How many LINEs with this d and an a of the span serve."""
    start, end = span
    both = _how_many_with(line, stretch, d, start) + _how_many_with(line, stretch, d, end)
    return both * (end - start + 1) // 2


def _line_in(line, stretch, d, span, number):
    """The LINE with this number among those with this d and an a of the span that serve."""
    start, end = span
    many = _how_many_with(line, stretch, d, start)
    step = 0 if start == end else (_how_many_with(line, stretch, d, end) - many) // (end - start)
    low, high = 0, end - start
    while low < high:
        middle = (low + high + 1) // 2
        if _sum_evenly(many, step, middle) <= number:
            low = middle
        else:
            high = middle - 1
    a = start + low
    return (a, additions(line, stretch, a, d)[0] + number - _sum_evenly(many, step, low), d)


def _sum_evenly(first, step, many):
    """The sum of so many numbers, each one by step more than the one ahead."""
    return first * many + step * (many * (many - 1) // 2)
