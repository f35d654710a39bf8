"""STRETCHes cut into pieces, on each of which one of some other LINEs has the values of line."""

from floorcorners.compare import first_above, first_unlike, last_unlike, same_on
from floorcorners.errors import NoLine, TooFew
from floorcorners.lines import is_numbers, raised
from floorcorners.sides import part_not_under


def serves_to(line, other, stretch):
    """The greatest n such that other serves from the first number to n; None if it does not at the first one."""
    first, last = stretch
    unlike = first_unlike(line, other, stretch)
    if unlike is None:
        return last
    return unlike - 1 if unlike > first else None


def serves_from(line, other, stretch):
    """The least n such that other serves from n to the last number; None if it does not at the last one."""
    first, last = stretch
    unlike = last_unlike(line, other, stretch)
    if unlike is None:
        return first
    return unlike + 1 if unlike < last else None


def serves_around(line, other, stretch, n):
    """The longest STRETCH within this one, with n in it, on which other serves; None if it does not at n."""
    first, last = stretch
    start = serves_from(line, other, (first, n))
    return None if start is None else (start, serves_to(line, other, (n, last)))


def runs(line, other, stretch, many):
    """The first so many of the longest STRETCHes within this one on which other serves."""
    start, last = stretch
    found = []
    while len(found) < many and start <= last:
        first = _first_same(line, other, (start, last))
        if first is None:
            break
        end = serves_to(line, other, (first, last))
        found.append((first, end))
        # Behind its end, other does not serve.
        start = end + 2
    return found


def pieces(line, others, stretch, many):
    """The STRETCH cut into the fewest pieces: a tuple of triples (first, last, place)."""
    cut, stuck = _cut(line, others, stretch, many)
    if stuck is not None:
        raise NoLine()
    if cut[-1][1] < stretch[1]:
        raise TooFew()
    return tuple(cut)


def is_cut(line, others, stretch, thing):
    """Whether thing is a tuple of triples that cut the STRETCH into pieces on which those at their places serve."""
    if not isinstance(thing, tuple) or not all([is_numbers(piece, 3) for piece in thing]):
        return False
    start = stretch[0]
    for first, last, place in thing:
        if first != start or not first <= last <= stretch[1] or not 0 <= place < len(others):
            return False
        if not same_on(line, others[place], (first, last)):
            return False
        start = last + 1
    return start == stretch[1] + 1


def stuck_at(line, others, stretch, many):
    """The number at which pieces raises NoLine; None if it does not."""
    return _cut(line, others, stretch, many)[1]


def furthest(line, others, stretch):
    """The greatest n such that one of others serves from the first number to n, and the places of all that do."""
    ends = [serves_to(line, other, stretch) for other in others]
    end = max([n for n in ends if n is not None], default=None)
    if end is None:
        return None
    return (end, tuple([place for place, n in enumerate(ends) if n == end]))


def _first_same(line, other, stretch):
    """The least n of the STRETCH at which both have the same value; None if there is none."""
    found = []
    for low, high in ((other, line), (line, other)):
        part = part_not_under(high, low, stretch)
        if part is not None:
            # The value of high is not below that of low here: it is the same if 1 more of low is above it.
            found.append(first_above(raised(low, 1), high, part))
    return min([n for n in found if n is not None], default=None)


def _cut(line, others, stretch, many):
    """The pieces, at most so many, and the number at which none of others serves any more, or None."""
    start, last = stretch
    cut = []
    while len(cut) < many and start <= last:
        found = furthest(line, others, (start, last))
        if found is None:
            return (cut, start)
        end, places = found
        cut.append((start, end, places[0]))
        start = end + 1
    return (cut, None)
