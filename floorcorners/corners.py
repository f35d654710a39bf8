"""The corners of the hull of all POINTs (n, value) of a LINE on a STRETCH."""

from math import gcd

from floorcorners.fraction import lowest
from floorcorners.lines import remainder, turned, value


def upper_corners(line, stretch):
    """The ascending list of all UPPER CORNERs."""
    return [(n, value(line, n)) for n in _upper_numbers(line, stretch)]


def lower_corners(line, stretch):
    """The ascending list of all LOWER CORNERs."""
    return [(n, value(line, n)) for n in _upper_numbers(turned(line), stretch)]


def next_upper(line, stretch, n):
    """The first UPPER CORNER with a number greater than n; None if there is none."""
    return _first_behind(upper_corners(line, stretch), n)


def next_lower(line, stretch, n):
    """The first LOWER CORNER with a number greater than n; None if there is none."""
    return _first_behind(lower_corners(line, stretch), n)


def greatest_of(line, stretch, u, v):
    """The greatest u * n + v * (value at n), and the least and the greatest n that have it."""
    # Where v is 0, the ends of the STRETCH decide, which are CORNERs of both kinds.
    corners = lower_corners(line, stretch) if v < 0 else upper_corners(line, stretch)
    worths = [u * n + v * height for n, height in corners]
    worth = max(worths)
    numbers = [corner[0] for corner, found in zip(corners, worths) if found == worth]
    return (worth, numbers[0], numbers[-1])


def least_of(line, stretch, u, v):
    """The least u * n + v * (value at n), and the least and the greatest n that have it."""
    worth, first, last = greatest_of(line, stretch, -u, -v)
    return (-worth, first, last)


def steepest_from(line, stretch, n):
    """The greatest slope from the POINT at n to one behind it, and the greatest m with it."""
    # From the first POINT on, the hull leaves by its steepest way and goes it to the end.
    return _way_out(upper_corners(line, (n, stretch[1])))


def flattest_from(line, stretch, n):
    """The least slope from the POINT at n to one behind it, and the greatest m with it."""
    return _way_out(lower_corners(line, (n, stretch[1])))


def on_upper(line, stretch, n):
    """Whether the POINT at n lies on the hull from above, as a CORNER or between two."""
    return _lies_on(upper_corners(line, stretch), (n, value(line, n)))


def on_lower(line, stretch, n):
    """Whether the POINT at n lies on the hull from below, as a CORNER or between two."""
    return _lies_on(lower_corners(line, stretch), (n, value(line, n)))


def how_many_on_upper(line, stretch):
    """How many POINTs lie on the hull from above."""
    return _how_many_along(upper_corners(line, stretch))


def how_many_on_lower(line, stretch):
    """How many POINTs lie on the hull from below."""
    return _how_many_along(lower_corners(line, stretch))


def twice_area(line, stretch):
    """Twice the area of the hull of all POINTs."""
    return _twice_below(upper_corners(line, stretch)) - _twice_below(lower_corners(line, stretch))


def _upper_numbers(line, stretch):
    """The ascending list of the numbers of all UPPER CORNERs."""
    a, _, d = line
    first, last = stretch
    # Up to the POINT nearest to (a * n + b) / d the hull is steeper than this straight line,
    # behind it flatter: both parts are found from their outer ends.
    ahead = [first + way for way in _nearing(a, d, remainder(line, first), last - first)]
    behind = [last - way for way in _nearing(-a, d, remainder(line, last), last - first)]
    if ahead[-1] == behind[-1]:
        behind.pop()
    return ahead + behind[::-1]


def _nearing(a, d, rest, room):
    """How far off the UPPER CORNERs are, up to the first of the POINTs with the least remainder.

    rest is the remainder at the beginning, from which on a way of at most room numbers is left.
    """
    # A step up is a steeper way than a / d: it goes up numbers on and takes loss from the
    # remainder. A step down, not steeper, goes down numbers on and adds gain. Both are always
    # neighbours: each way with a slope between theirs is made of some of both. No way steeper
    # than the step up can be gone, as it would take more than rest. So the steepest way of all
    # is a step up, or made of a step down and the most steps up that rest and room let.
    found = [0]
    at = 0
    up, loss = 1, d - a % d
    down, gain = 1, a % d
    while True:
        times = min((room - at) // up, rest // loss)
        if times > 0:
            at += times * up
            rest -= times * loss
            found.append(at)
        if gain == 0 or up + down > room - at:
            return found
        # More of these steps down would make the step up one that rest lets.
        times = (loss - rest - 1) // gain
        up += times * down
        loss -= times * gain
        if up + down > room - at:
            return found
        times = min((rest + gain) // loss, (room - at - down) // up) - 1
        down += times * up
        gain -= times * loss
        if loss > gain:
            up += down
            loss -= gain
        else:
            down += up
            gain -= loss


def _first_behind(corners, n):
    """The first of the corners with a number greater than n; None if there is none."""
    for corner in corners:
        if corner[0] > n:
            return corner
    return None


def _way_out(corners):
    """The slope from the first corner to the next one, and its number; None if there is none."""
    if len(corners) == 1:
        return None
    wide, high = _way(corners[0], corners[1])
    return (lowest(high, wide), corners[1][0])


def _way(left, right):
    """By how much the number and by how much the value grows from one POINT to another."""
    return (right[0] - left[0], right[1] - left[1])


def _lies_on(corners, point):
    """Whether the POINT is one of the corners or on the straight way between two neighbours."""
    if point in corners:
        return True
    for left, right in zip(corners, corners[1:]):
        if left[0] < point[0] < right[0]:
            wide, high = _way(left, right)
            part_wide, part_high = _way(left, point)
            return wide * part_high == high * part_wide
    return False


def _how_many_along(corners):
    """How many POINTs there are at the corners and on the straight ways between neighbours."""
    # A whole point on such a way is a POINT: nothing fits between it and the rounding.
    ways = [_way(left, right) for left, right in zip(corners, corners[1:])]
    return 1 + sum([gcd(wide, high) for wide, high in ways])


def _twice_below(corners):
    """Twice the area between the ways along the corners and the height 0, below it less than 0."""
    return sum([(right[0] - left[0]) * (left[1] + right[1]) for left, right in zip(corners, corners[1:])])
