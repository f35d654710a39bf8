"""ROWs: tuples of the values at 0, 1, 2 and so on, cut into parts that are the values of LINEs.

A ROW is straight, the values of some LINE, exactly if over each gap between two places all growths, of a value from
one place to the other, are the same or two neighbours.
"""

from floorcorners.fraction import greatest_quotient, least_quotient, lowest
from floorcorners.lines import is_number, is_numbers
from floorcorners.told import is_line_for, line_for


def is_row(thing):
    """Whether thing is a tuple of numbers."""
    return isinstance(thing, tuple) and all([is_number(part) for part in thing])


def is_straight(row):
    """Whether some LINE has the values of the ROW."""
    return clash_in(row) is None


def line_of(row):
    """A LINE that has the values of the ROW; None if there is none."""
    return line_for(list(enumerate(row))) if is_straight(row) else None


def is_line_of(row, thing):
    """Whether thing is a LINE that has the values of the ROW."""
    return is_line_for(list(enumerate(row)), thing)


def slopes_of(row):
    """The FRACTIONs between which the slopes are; None for fewer than two values, or if it is not straight."""
    if len(row) < 2 or not is_straight(row):
        return None
    gaps = list(range(1, len(row)))
    low = greatest_quotient([(max(_growths(row, gap)) - 1, gap) for gap in gaps])
    high = least_quotient([(min(_growths(row, gap)) + 1, gap) for gap in gaps])
    return (lowest(low[0], low[1]), lowest(high[0], high[1]))


def clash_in(row):
    """Two parts of the same length, the first of which grows by 2 or more than the other; None if it is straight."""
    for gap in range(1, len(row)):
        growths = _growths(row, gap)
        least, greatest = min(growths), max(growths)
        if greatest - least > 1:
            more, less = growths.index(greatest), growths.index(least)
            return ((more, more + gap), (less, less + gap))
    return None


def is_clash_in(row, thing):
    """Whether thing is a pair of parts of the same length, the first of which grows by 2 or more than the other."""
    if not isinstance(thing, tuple) or len(thing) != 2 or not all([is_numbers(part, 2) for part in thing]):
        return False
    if not all([0 <= first <= last < len(row) for first, last in thing]):
        return False
    (first, last), (other_first, other_last) = thing
    if last - first != other_last - other_first:
        return False
    return row[last] - row[first] - (row[other_last] - row[other_first]) > 1


def straight_to(row, place):
    """The last place of the longest straight part that begins at this place."""
    least, greatest = {}, {}
    for last in range(place + 1, len(row)):
        for first in range(place, last):
            gap, growth = last - first, row[last] - row[first]
            least[gap] = min(least.get(gap, growth), growth)
            greatest[gap] = max(greatest.get(gap, growth), growth)
            if greatest[gap] - least[gap] > 1:
                return last - 1
    return len(row) - 1


def fewest_parts(row):
    """The ROW cut into straight parts, each one, from the first on, as long as can be."""
    parts = []
    start = 0
    while start < len(row):
        end = straight_to(row, start)
        parts.append((start, end))
        start = end + 1
    return tuple(parts)


def longest_parts(row):
    """The straight parts that lie within no other straight part, ascending."""
    parts = []
    for start in range(len(row)):
        end = straight_to(row, start)
        if not parts or end > parts[-1][1]:
            parts.append((start, end))
    return tuple(parts)


def next_values(row):
    """The least and the greatest number that can stand behind the straight ROW so that it stays straight."""
    leasts, greatests = [], []
    for gap in range(1, len(row)):
        growths = _growths(row, gap)
        leasts.append(row[-gap] + max(growths) - 1)
        greatests.append(row[-gap] + min(growths) + 1)
    return (max(leasts), min(greatests))


def how_many_on(row, number):
    """How many straight ROWs begin with this one and have so many values more."""
    longer = [list(row)]
    for _ in range(number):
        longer = [begun + [more] for begun in longer for more in _values_on(begun)]
    return len(longer)


def _growths(row, gap):
    """By how much the values grow over this gap, from each place on from which it ends within the ROW."""
    return [row[place + gap] - row[place] for place in range(len(row) - gap)]


def _values_on(row):
    """All numbers that can stand behind the straight ROW."""
    least, greatest = next_values(row)
    return list(range(least, greatest + 1))
