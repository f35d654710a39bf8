"""FORMULAs, texts such as "(n + 7) // 2 // 3": their values, and whether a LINE has them all."""

from math import lcm

from floorcorners.errors import BadText, NotStraight
from floorcorners.fraction import lowest
from floorcorners.lines import is_numbers
from floorcorners.steps import period_and_growth, steps_of, worths


def is_formula(thing):
    """Whether thing is a FORMULA."""
    if not isinstance(thing, str):
        return False
    try:
        steps_of(thing)
    except BadText:
        return False
    return True


def formula_value(text, n):
    """The value of the FORMULA at n."""
    return worths(steps_of(text), [n])[0]


def slope_of(text):
    """By how much the values grow over a period, divided by this."""
    return _slope(steps_of(text))


def period_of(text):
    """The least period."""
    steps = steps_of(text)
    offs = _offs_of_period(steps)
    period = len(offs)
    # All periods are multiples of the least one, so it is reached by leaving out one divisor after the other.
    for divisor in range(2, period + 1):
        while period % divisor == 0 and _repeats(offs, period // divisor):
            period = period // divisor
    return period


def line_words(line):
    """The LINE written as a FORMULA."""
    a, b, d = line
    sign = "-" if b < 0 else "+"
    return f"({a} * n {sign} {abs(b)}) // {d}"


def formula_line(text):
    """The LINE in normal form with all values of the FORMULA; raises NotStraight() if there is none."""
    steps = steps_of(text)
    top, bottom = _slope(steps)
    offs = _offs_of_period(steps)
    if max(offs) - min(offs) >= bottom:
        raise NotStraight()
    return (top, max(offs), bottom)


def bend_of(text):
    """Two numbers such that no LINE with the slope of the FORMULA has its values at both; None if one has all."""
    steps = steps_of(text)
    offs = _offs_of_period(steps)
    most, least = max(offs), min(offs)
    if most - least < _slope(steps)[1]:
        return None
    return (offs.index(most), offs.index(least))


def is_bend(text, thing):
    """Whether thing is a pair of numbers such that no LINE with the slope of the FORMULA has its values at both."""
    steps = steps_of(text)
    if not is_numbers(thing, 2):
        return False
    one, other = _offs(steps, list(thing))
    return abs(one - other) >= _slope(steps)[1]


def same_formulas(one, other):
    """Whether both FORMULAs have the same values at all n."""
    return first_apart(one, other) is None


def first_apart(one, other):
    """The least n from 0 on at which both FORMULAs have unlike values; None if there is none."""
    steps, other_steps = steps_of(one), steps_of(other)
    period = lcm(period_and_growth(steps)[0], period_and_growth(other_steps)[0])
    # If they are alike over a period of both and at the next number, they grow by the same over it.
    numbers = list(range(period + 1))
    for n, found, wanted in zip(numbers, worths(steps, numbers), worths(other_steps, numbers)):
        if found != wanted:
            return n
    return None


def _slope(steps):
    period, growth = period_and_growth(steps)
    return lowest(growth, period)


def _offs(steps, numbers):
    """At each of the numbers the value times the bottom of the slope, less n times its top.

    A LINE (top, b, bottom) has the value if b is at least that, and less than the bottom more.
    """
    top, bottom = _slope(steps)
    return [bottom * height - top * n for n, height in zip(numbers, worths(steps, numbers))]


def _offs_of_period(steps):
    """The offs from 0 on over a period, behind which they come again."""
    return _offs(steps, list(range(period_and_growth(steps)[0])))


def _repeats(offs, period):
    """Whether all offs, those of some periods, are the same as those so many numbers later."""
    return offs[period:] == offs[:len(offs) - period]
