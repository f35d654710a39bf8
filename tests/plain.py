"""What the tests compare the package with: plain searches, and one other way for long STRETCHes."""

import random
from fractions import Fraction

BOUND = 10 ** 40


def points(line, stretch):
    """All POINTs, one by one."""
    a, b, d = line
    return [(n, (a * n + b) // d) for n in range(stretch[0], stretch[1] + 1)]


def slope(left, right):
    return Fraction(right[1] - left[1], right[0] - left[0])


def hull_points(found, sign, amid):
    """The POINTs that are corners above (sign 1) or below (-1); amid: those amid an edge, too.

    By the definition: u * m + v * (value at m) is less at all others than at n exactly if -u / v
    is above all slopes to POINTs behind n and below all slopes to POINTs ahead of it.
    """
    kept = []
    for place, point in enumerate(found):
        behind = [sign * slope(point, other) for other in found[place + 1:]]
        ahead = [sign * slope(other, point) for other in found[:place]]
        if not behind or not ahead or max(behind) < min(ahead) or (amid and max(behind) == min(ahead)):
            kept.append(point)
    return kept


def plain_extreme(line, stretch, u, v, pick):
    """(worth, first, last), pick being max or min."""
    worths = [(u * n + v * y, n) for n, y in points(line, stretch)]
    worth = pick(worths)[0]
    numbers = [n for found, n in worths if found == worth]
    return (worth, numbers[0], numbers[-1])


def plain_way_out(line, stretch, n, pick):
    """The slope of steepest_from (pick max) or flattest_from (pick min) and the greatest m."""
    found = points(line, (n, stretch[1]))
    ways = [(slope(found[0], other), other[0]) for other in found[1:]]
    if not ways:
        return None
    best = pick([way for way, _ in ways])
    last = max([m for way, m in ways if way == best])
    return ((best.numerator, best.denominator), last)


def height_of_hull(found, n, pick):
    """Where the hull of the POINTs ends above (pick max) or below (pick min) the number n."""
    heights = [Fraction(y) for m, y in found if m == n]
    for left in found:
        for right in found:
            if left[0] < n < right[0]:
                heights.append(left[1] + slope(left, right) * (n - left[0]))
    return pick(heights)


def plain_twice_area(line, stretch):
    found = points(line, stretch)
    highs = [height_of_hull(found, n, max) - height_of_hull(found, n, min) for n, _ in found]
    return sum([left + right for left, right in zip(highs, highs[1:])])


def greatest_worth(line, stretch, u, v):
    """The greatest u * n + v * (value at n), by turning numbers and values about again and again."""
    a, b, d = line
    many = stretch[1] - stretch[0] + 1
    b += a * stretch[0]
    base = u * stretch[0]
    best = None
    while True:
        u += v * (a // d)
        base += v * (b // d)
        a, b = a % d, b % d
        top = (a * (many - 1) + b) // d
        ends = max(base, base + u * (many - 1) + v * top)
        best = ends if best is None else max(best, ends)
        if top == 0 or (u >= 0 and v >= 0) or (u <= 0 and v <= 0):
            return best
        # Only numbers next to a growth of the value count: as many as there are values behind it.
        if u < 0:
            base += u + v
        many, a, b, d, u, v = top, d, d - b - 1, a, v, u


def greatest_worth_and_ends(line, stretch, u, v):
    """(worth, first, last) of greatest_of, on STRETCHes within some times BOUND."""
    scale = 1000 * BOUND
    worth = greatest_worth(line, stretch, u, v)
    last = greatest_worth(line, stretch, u * scale + 1, v * scale) - worth * scale
    first = worth * scale - greatest_worth(line, stretch, u * scale - 1, v * scale)
    return (worth, first, last)


def drawn_line(draw, most):
    """Some LINE with numbers up to most, often one with a growth of whole numbers or of nothing."""
    d = draw.randint(1, most)
    kind = draw.randint(0, 7)
    if kind == 0:
        return (0, draw.randint(-most, most), d)
    if kind == 1:
        return (d * draw.randint(-3, 3), draw.randint(-most, most), d)
    if kind == 2:
        common = draw.randint(1, 6)
        return (common * draw.randint(-most, most), draw.randint(-most, most), common * d)
    return (draw.randint(-most, most), draw.randint(-most, most), d)


def near_line(draw, line):
    """A LINE with almost the same values, mostly in other terms."""
    a, b, d = line
    many = draw.randint(1, 7)
    top, add = a * many + draw.randint(-1, 1), b * many + draw.randint(-many, many)
    return (top, add, max(1, d * many + draw.randint(-1, 1)))


def drawn_stretch(draw, most, longest):
    first = draw.randint(-most, most)
    return (first, first + draw.choice((0, 1, draw.randint(0, longest), longest)))


def drawn_cases(seed, many, sizes, most, longest):
    """(draw, LINE, STRETCH) so many times, the LINE with numbers up to one of the sizes."""
    draw = random.Random(seed)
    for _ in range(many):
        yield draw, drawn_line(draw, draw.choice(sizes)), drawn_stretch(draw, most, longest)


def long_cases(seed, many):
    """(draw, LINE, STRETCH) so many times, the STRETCH with ends of up to forty figures."""
    draw = random.Random(seed)
    for _ in range(many):
        first = draw.randint(-BOUND, BOUND)
        yield draw, drawn_line(draw, draw.choice((12, 10 ** 20, BOUND))), (first, draw.randint(first, BOUND))
