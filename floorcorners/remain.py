"""Remainders of LINEs on STRETCHes, and TESTs: triples (factor, size, limit) that numbers pass by a remainder."""

from floorcorners.compare import first_above, last_above
from floorcorners.corners import greatest_of, least_of
from floorcorners.lines import is_numbers
from floorcorners.search import first_that
from floorcorners.sums import how_many_with


def least_remainder(line, stretch):
    """The least remainder at a number of the STRETCH."""
    a, b, d = line
    return least_of(line, stretch, a, -d)[0] + b


def greatest_remainder(line, stretch):
    """The greatest remainder at a number of the STRETCH."""
    a, b, d = line
    return greatest_of(line, stretch, a, -d)[0] + b


def first_below(line, stretch, number):
    """The first number of the STRETCH at which the remainder is less than number; None if there is none."""
    return first_above(line, _less(line, number), stretch)


def last_below(line, stretch, number):
    """The last number of the STRETCH at which the remainder is less than number; None if there is none."""
    return last_above(line, _less(line, number), stretch)


def first_from(line, stretch, number):
    """The first number of the STRETCH at which the remainder is at least number; None if there is none."""
    return first_above(_more(line, number), line, stretch)


def last_from(line, stretch, number):
    """The last number of the STRETCH at which the remainder is at least number; None if there is none."""
    return last_above(_more(line, number), line, stretch)


def is_test(thing):
    """Whether thing is a TEST: a tuple (factor, size, limit) of numbers, size from 1, limit from 0 to size."""
    return is_numbers(thing, 3) and thing[1] >= 1 and 0 <= thing[2] <= thing[1]


def passes(test, n):
    """Whether n passes the TEST."""
    factor, size, limit = test
    return factor * n % size < limit


def how_many_pass(test, stretch):
    """How many numbers of the STRETCH pass the TEST."""
    factor, size, limit = test
    return how_many_with((factor, 0, size), stretch, 0, limit - 1)


def tells(test, divisor, last):
    """Whether of the numbers from 0 to last just the multiples of the divisor pass the TEST."""
    if _first_that_fails(test, divisor, last) is not None:
        return False
    return how_many_pass(test, (0, last)) == last // divisor + 1


def first_mistake(test, divisor, last):
    """The least number from 0 to last for which the TEST tells the divisor wrongly; None if there is none."""
    failing = _first_that_fails(test, divisor, last)
    end = last + 1 if failing is None else failing
    # Ahead of the end all multiples pass: others do, too, as soon as more pass than there are multiples.
    found = first_that(lambda n: how_many_pass(test, (0, n)) > n // divisor + 1, 0, end)
    return found if found <= last else None


def limits_for(factor, size, divisor, last):
    """The least and the greatest limit with which a TEST tells the divisor to last; None if there is none."""
    multiples = last // divisor + 1
    least = greatest_remainder((factor * divisor, 0, size), (0, multiples - 1)) + 1
    # From this limit on all multiples pass, up to some limit nothing else does.
    too_great = first_that(
        lambda limit: how_many_pass((factor, size, limit), (0, last)) > multiples, least, size + 1)
    return (least, too_great - 1) if least < too_great else None


def usual_test(divisor, width):
    """The TEST for the divisor whose size is 2 ** width."""
    size = 1 << width
    factor = size // divisor + 1
    return (factor, size, min(factor, size))


def least_width(divisor, last):
    """The least width with which the usual TEST tells the divisor to last."""
    width = 0
    while not tells(usual_test(divisor, width), divisor, last):
        width += 1
    return width


def _less(line, number):
    """A LINE whose value is less than that of line just where the remainder is less than number."""
    a, b, d = line
    return (a, b - min(max(number, 0), d), d)


def _more(line, number):
    """A LINE whose value is greater than that of line just where the remainder is at least number."""
    a, b, d = line
    return (a, b + d - min(max(number, 0), d), d)


def _first_that_fails(test, divisor, last):
    """The least multiple of the divisor, up to last, that does not pass; None if there is none."""
    factor, size, limit = test
    place = first_from((factor * divisor, 0, size), (0, last // divisor), limit)
    return None if place is None else place * divisor
