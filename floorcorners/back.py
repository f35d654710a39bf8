"""LINEs the other way about: which numbers have a value, and there by one LINE and back by another one."""

from floorcorners.compare import first_above
from floorcorners.corners import greatest_of, least_of, lower_corners, upper_corners
from floorcorners.fitting import ends_if_fitting
from floorcorners.fraction import simplest_between
from floorcorners.lines import mirrored, turned, value
from floorcorners.sums import values_met
from floorcorners.told import add_span


def least_at(line, y):
    """The least n at which the value of the rising LINE is at least y."""
    return value(inverse_least(line), y)


def greatest_at(line, y):
    """The greatest n at which the value of the rising LINE is at most y."""
    return value(inverse_greatest(line), y)


def inverse_least(line):
    """The LINE whose value at each y is the least n at which the value of line is at least y."""
    a, b, d = line
    return (d, a - 1 - b, a)


def inverse_greatest(line):
    """The LINE whose value at each y is the greatest n at which the value of line is at most y."""
    a, b, d = line
    return (d, d - 1 - b, a)


def how_many_at(line, y):
    """At how many n the value of the rising LINE is y."""
    return greatest_at(line, y) - least_at(line, y) + 1


def is_one_to_one(line, stretch):
    """Whether no two n of the STRETCH have the same value."""
    return values_met(line, stretch) == stretch[1] - stretch[0] + 1


def is_onto(line, stretch):
    """Whether each number between two values on the STRETCH is a value there, too."""
    # The values never turn about, so the ends have the least and the greatest one.
    return values_met(line, stretch) == abs(value(line, stretch[1]) - value(line, stretch[0])) + 1


def there_and_back(one, other, n):
    """Where n comes by one, and from there by other."""
    return value(other, value(one, n))


def is_lossless(one, other, stretch):
    """Whether each n of the STRETCH comes back to n."""
    return first_lost(one, other, stretch) is None


def first_lost(one, other, stretch):
    """The least n of the STRETCH that does not come back to n; None if there is none."""
    a, b, d = other
    if a < 0:
        return first_lost(turned(one), mirrored(other), stretch)
    if a == 0:
        return _first_but(b // d, stretch)
    # n comes back from the values between the least and the greatest at which other is n.
    found = [first_above(inverse_least(other), one, stretch), first_above(one, inverse_greatest(other), stretch)]
    return min([n for n in found if n is not None], default=None)


def least_slip(one, other, stretch):
    """By how much numbers of the STRETCH come back greater at the least."""
    a, b, d = other
    return (least_of(one, stretch, -d, a)[0] + b) // d


def greatest_slip(one, other, stretch):
    """By how much numbers of the STRETCH come back greater at the most."""
    a, b, d = other
    return (greatest_of(one, stretch, -d, a)[0] + b) // d


def least_back(one, stretch):
    """The LINE with the least d by which each n of the STRETCH comes back to n; None if there is none."""
    first, last = stretch
    if first == last:
        return (0, first, 1)
    if not is_one_to_one(one, stretch):
        return None
    # What is asked of a LINE back at the CORNERs, it does at all POINTs between them.
    corners = upper_corners(one, stretch) + lower_corners(one, stretch)
    told = sorted(set([(y, n) for n, y in corners]))
    low, high = ends_if_fitting(told)
    a, d = simplest_between(low, high)
    return (a, add_span(told, a, d)[0], d)


def _first_but(number, stretch):
    """The first number of the STRETCH that is not this one; None if there is none."""
    first, last = stretch
    if first != number:
        return first
    return first + 1 if first < last else None
