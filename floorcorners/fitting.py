"""What TOLD values leave to the LINEs that have them: two ends for the slopes, and LINEs as ends for the values.

A LINE has TOLD values if (a * n + b) / d is at each of their n from the value on, but less than 1 above it. Here a way
is a triple (top, bottom, (n, y)): what is straight through (n, y) with the slope top / bottom.
"""

from floorcorners.fraction import greatest_quotient, is_less, least_quotient, lowest


def as_tuples(told):
    """The TOLD values made of tuples alone."""
    return tuple([tuple(pair) for pair in told])


def ends_of_slopes(told):
    """The FRACTIONs between which all slopes of LINEs with two or more TOLD values are, if the first one is less."""
    low, high = _end_ways(told)
    return (lowest(low[0], low[1]), lowest(high[0], high[1]))


def ends_if_fitting(told):
    """The same, for TOLD values, maybe many, which some LINE has for sure."""
    low = _slope_below(steepest_bar(told, told))
    turned_over = [(n, -number) for n, number in told]
    high = _slope_below(steepest_bar(turned_over, turned_over))
    return (low, (-high[0], high[1]))


def steepest_bar(lefts, rights):
    """A point (m, x) of lefts and a point (n, y) of rights, m below n, with the greatest (y - x - 1) / (n - m).

    Some LINE has to have all of them.
    """
    left, right = lefts[0], rights[-1]
    # The way that two points give is replaced by that of the two points that stand out from it by the
    # most, until none do: then it is the steepest. The growing way never meets the upper end of the
    # slopes, so those that stand out by the most always have m ahead of n.
    while True:
        wide, high = right[0] - left[0], right[1] - left[1] - 1
        least, m, x = min([(wide * y - high * n, n, y) for n, y in lefts])
        greatest, n, y = max([(wide * y - high * n, n, y) for n, y in rights])
        if greatest - least <= wide:
            return (left, right)
        left, right = (m, x), (n, y)


def three_fit(left, middle, right):
    """Whether some LINE has these three pairs, ascending."""
    wide = right[0] - left[0]
    # How far the middle one is off the straight way between the others, times wide.
    off = left[1] * (right[0] - middle[0]) + right[1] * (middle[0] - left[0]) - middle[1] * wide
    return -wide < off < wide


def end_lines(told):
    """Two lists of LINEs, for two or more TOLD values that fit.

    At each n the least of the values of the first ones is the least that any LINE with the TOLD values has there, the
    greatest of the values of the second ones the greatest.
    """
    # Slopes and additions that fit are a polygon. Its corners are the ways with the end slopes, and
    # between them those along the hull of the TOLD values, or along that of the values 1 above them.
    low, high = _end_ways(told)
    over = [(n, number + 1) for n, number in told]
    lower = [way for way in _ways_along(told, 1) if is_less(low, way) and is_less(way, high)]
    upper = [way for way in _ways_along(over, -1) if is_less(low, way) and is_less(way, high)]
    # The upper ends themselves are not reached, so a whole number there is 1 too much.
    return (
        [_line_of(way, 0) for way in [low, high] + lower],
        [_line_of(way, -1) for way in [low, high] + upper])


def _end_ways(told):
    """The ways with the two end slopes: each one from a value to 1 above another value."""
    pairs = [(left, right) for place, right in enumerate(told) for left in told[:place]]
    low = greatest_quotient([_way((m, x + 1), right) for (m, x), right in pairs])
    high = least_quotient([_way(left, (n, y + 1)) for left, (n, y) in pairs])
    return (low, high)


def _slope_below(bar):
    """The FRACTION (y - x - 1) / (n - m) of the points (m, x) and (n, y)."""
    (m, x), (n, y) = bar
    return lowest(y - x - 1, n - m)


def _way(left, right):
    """The way from one point to another one."""
    return (right[1] - left[1], right[0] - left[0], left)


def _ways_along(points, sign):
    """The ways along the hull of ascending points, above (sign 1) or below (sign -1)."""
    kept = []
    for point in points:
        while len(kept) > 1 and _turns(kept[-2], kept[-1], point) * sign >= 0:
            kept.pop()
        kept.append(point)
    return [_way(left, right) for left, right in zip(kept, kept[1:])]


def _turns(left, middle, right):
    """Above 0 if the way by the middle point turns upwards there, below 0 if downwards."""
    return (middle[0] - left[0]) * (right[1] - middle[1]) - (middle[1] - left[1]) * (right[0] - middle[0])


def _line_of(way, more):
    """The LINE whose value is that of the way and more / bottom, rounded down."""
    top, bottom, (n, y) = way
    return (top, y * bottom - top * n + more, bottom)
