"""LINEs, triples (a, b, d): the straight formulas (a * n + b) // d."""

from math import gcd


def is_number(thing):
    """Whether thing is an integer, and neither True nor False."""
    return isinstance(thing, int) and not isinstance(thing, bool)


def is_numbers(thing, many):
    """Whether thing is a tuple of so many numbers."""
    return isinstance(thing, tuple) and len(thing) == many and all([is_number(part) for part in thing])


def is_line(thing):
    """Whether thing is a LINE: a tuple of three numbers, the last one from 1."""
    return is_numbers(thing, 3) and thing[2] >= 1


def value(line, n):
    """The value of the LINE at n."""
    a, b, d = line
    return (a * n + b) // d


def remainder(line, n):
    """What the rounding down at n leaves, from 0 to d - 1."""
    a, b, d = line
    return (a * n + b) % d


def values(line, stretch):
    """The tuple of the values at the numbers of the STRETCH."""
    first, last = stretch
    return tuple([value(line, n) for n in range(first, last + 1)])


def normal(line):
    """The LINE with the same values at all numbers and the least d."""
    a, b, d = line
    # What b is above a multiple of the common divisor never reaches the next whole d.
    common = gcd(a, d)
    return (a // common, b // common, d // common)


def same_everywhere(one, other):
    """Whether both LINEs have the same values at all numbers."""
    return normal(one) == normal(other)


def moved(line, number):
    """A LINE whose value at n is that of line at n + number."""
    a, b, d = line
    return (a, b + a * number, d)


def raised(line, number):
    """A LINE whose value at n is that of line and number more."""
    a, b, d = line
    return (a, b + d * number, d)


def leaned(line, number):
    """A LINE whose value at n is that of line and number * n more."""
    a, b, d = line
    return (a + d * number, b, d)


def mirrored(line):
    """A LINE whose value at n is that of line at -n."""
    a, b, d = line
    return (-a, b, d)


def turned(line):
    """A LINE whose value at n is that of line with the other sign."""
    a, b, d = line
    # With the sign, rounding down becomes rounding up.
    return rounded_up(-a, -b, d)


def strided(line, number):
    """A LINE whose value at n is that of line at number * n."""
    a, b, d = line
    return (a * number, b, d)


def divided(line, number, add=0):
    """A LINE whose value at n is that of line and add more, divided by number, rounded down."""
    a, b, d = line
    # Rounding down twice is the same as rounding down once, at the end.
    return (a, b + d * add, d * number)


def rounded_up(a, b, d):
    """A LINE whose value at n is (a * n + b) / d rounded up."""
    return (a, b + d - 1, d)


def nearest(a, b, d):
    """A LINE whose value at n is (a * n + b) / d rounded to the nearest number, halves up."""
    return (2 * a, 2 * b + d, 2 * d)


def growth(line):
    """The least and the greatest difference of the values at n + 1 and at n, for all n."""
    a, _, d = line
    return (a // d, -(-a // d))
