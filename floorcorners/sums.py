"""Sums of the values of LINEs on a STRETCH, and counts of numbers of which something holds."""

from floorcorners.errors import NoNumber
from floorcorners.lines import moved, raised, value
from floorcorners.search import first_that
from floorcorners.sides import part_not_under


def sum_of(line, stretch):
    """The sum of the values."""
    first, last = stretch
    a, b, d = moved(line, first)
    many = last - first + 1
    total, sign = 0, 1
    while many > 0:
        total += sign * (a // d * (many * (many - 1) // 2) + b // d * many)
        a, b = a % d, b % d
        # What is left counts the points with a height from 1 to top. They are counted along the other
        # way: at each height the numbers up to the last one, but for those that come too early.
        top = (a * (many - 1) + b) // d
        total += sign * (many - 1) * top
        sign = -sign
        a, b, d, many = d, d - b - 1, a, top
    return total


def sum_of_squares(line, stretch):
    """The sum of the squares of the values."""
    return _sums_from_0(moved(line, stretch[0]), stretch[1] - stretch[0] + 1)[2]


def sum_with_n(line, stretch):
    """The sum of n times the value at n."""
    first, last = stretch
    plain, with_n, _ = _sums_from_0(moved(line, first), last - first + 1)
    return first * plain + with_n


def how_many_with(line, stretch, low, high):
    """At how many numbers the remainder is from low to high."""
    least, greatest = max(low, 0), min(high, line[2] - 1)
    if least > greatest:
        return 0
    a, b, d = line
    # With b less by so much, the value stays the same where the remainder is at least that, and is 1 less elsewhere.
    return _sum_of_leads((a, b - least, d), (a, b - greatest - 1, d), stretch)


def nth_with(line, stretch, low, high, number):
    """Of the numbers at which the remainder is from low to high the one with this number."""
    return _nth(lambda part: how_many_with(line, part, low, high), stretch, number)


def how_many_same(line, other, stretch):
    """At how many numbers both LINEs have the same value."""
    unlike = how_many_above(line, other, stretch) + how_many_above(other, line, stretch)
    return stretch[1] - stretch[0] + 1 - unlike


def how_many_above(line, other, stretch):
    """At how many numbers the value of line is greater."""
    # Each lead of 1 or more is counted whole first, and less 1 then.
    return lead_sum(line, other, stretch) - lead_sum(line, raised(other, 1), stretch)


def nth_same(line, other, stretch, number):
    """Of the numbers at which both LINEs have the same value the one with this number."""
    return _nth(lambda part: how_many_same(line, other, part), stretch, number)


def nth_above(line, other, stretch, number):
    """Of the numbers at which the value of line is greater the one with this number."""
    return _nth(lambda part: how_many_above(line, other, part), stretch, number)


def lead_sum(line, other, stretch):
    """The sum of what line is greater by, over all numbers at which its value is greater."""
    # Where line is not under other before rounding down, no lead is below 0; elsewhere none is above 0.
    part = part_not_under(line, other, stretch)
    return 0 if part is None else _sum_of_leads(line, other, part)


def values_met(line, stretch):
    """How many unlike values the LINE has on the STRETCH."""
    a, _, d = line
    first, last = stretch
    if abs(a) >= d:
        return last - first + 1
    return abs(value(line, last) - value(line, first)) + 1


def least_sum_to(line, stretch, goal):
    """The least n such that the values from the first number to n come to goal or more; None if there is none."""
    first, last = stretch
    if sum_of(line, stretch) < goal:
        return None
    return first_that(lambda n: sum_of(line, (first, n)) >= goal, first, last)


def _sums_from_0(line, many):
    """The sums of the values, of n times the value, of the squares, over so many numbers from 0 on."""
    a, b, d = line
    steps = []
    while many > 0:
        whole_a, whole_b = a // d, b // d
        a, b = a % d, b % d
        top = (a * (many - 1) + b) // d
        steps.append((many, whole_a, whole_b, top))
        a, b, d, many = d, d - b - 1, a, top
    plain = with_n = squares = 0
    for step in reversed(steps):
        plain, with_n, squares = _turned_sums(step, plain, with_n, squares)
    return (plain, with_n, squares)


def _turned_sums(step, plain, with_n, squares):
    """The three sums along the numbers, from those along the heights: from how many numbers come too early at each."""
    many, whole_a, whole_b, top = step
    last = many - 1
    ones, twos = many * last // 2, many * last * (2 * last + 1) // 6
    # Each height from 1 to top has its points behind those that come too early.
    rest = last * top - plain
    rest_with_n = (many * last * top - squares - plain) // 2
    rest_squares = last * top * (top + 1) - 2 * (with_n + plain) - rest
    # The whole part whole_a * n + whole_b of the value is added again.
    return (
        whole_a * ones + whole_b * many + rest,
        whole_a * twos + whole_b * ones + rest_with_n,
        whole_a * whole_a * twos + 2 * whole_a * whole_b * ones + whole_b * whole_b * many
        + 2 * whole_a * rest_with_n + 2 * whole_b * rest + rest_squares)


def _sum_of_leads(line, other, stretch):
    return sum_of(line, stretch) - sum_of(other, stretch)


def _nth(count, stretch, number):
    """The number up to which there are number + 1 of those that count counts."""
    first, last = stretch
    if number < 0 or number >= count(stretch):
        raise NoNumber(number)
    return first_that(lambda n: count((first, n)) > number, first, last)
