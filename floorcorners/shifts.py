"""Shift LINEs (m, c, 2 ** shift) that serve for a LINE on a STRETCH: dividing by shifting."""

from floorcorners.compare import same_on
from floorcorners.corners import lower_corners, upper_corners
from floorcorners.errors import TooFew
from floorcorners.formulas import additions, slopes
from floorcorners.fraction import greatest_quotient, least_quotient, tops_between
from floorcorners.lines import mirrored, value
from floorcorners.sides import first_number_above

MOST_SHIFT = 300


def multipliers(line, stretch, shift):
    """The least and the greatest m of the shift LINEs with this shift that serve; None if there are none."""
    _need_two(stretch)
    low, high = slopes(line, stretch)
    least, greatest = tops_between(low, high, 1 << shift)
    return (least, greatest) if least <= greatest else None


def adds(line, stretch, shift, m):
    """The least and the greatest c with which (m, c, 2 ** shift) serves; None if there are none."""
    _need_two(stretch)
    return additions(line, stretch, m, 1 << shift)


def least_shift(line, stretch):
    """The least shift with which some shift LINE serves."""
    _need_two(stretch)
    low, high = slopes(line, stretch)
    shift = 0
    while True:
        least, greatest = tops_between(low, high, 1 << shift)
        if least <= greatest:
            return shift
        shift += 1


def shift_line(line, stretch):
    """The shift LINE of the least shift that serves with the least m, of these the one with the least c."""
    shift = least_shift(line, stretch)
    m = multipliers(line, stretch, shift)[0]
    return (m, adds(line, stretch, shift, m)[0], 1 << shift)


def bare_multipliers(line, stretch, shift):
    """The least and the greatest m with which (m, 0, 2 ** shift) serves; None if there are none."""
    _need_two(stretch)
    if not _starts_at_nought(line, stretch):
        return None
    return _tops_of_sides(_bare_sides(line, stretch), 1 << shift)


def least_bare_shift(line, stretch):
    """The least shift with which a bare one serves; None if there is none."""
    _need_two(stretch)
    if not _starts_at_nought(line, stretch):
        return None
    sides = _bare_sides(line, stretch)
    # If any slopes are left between the ends, there are some with a power of 2 that is greater than
    # the product of the bottoms of all ends; if just one is, its bottom is that of an end.
    most = sum([low[1].bit_length() + high[1].bit_length() for _, low, high in sides])
    for shift in range(most + 1):
        if _tops_of_sides(sides, 1 << shift) is not None:
            return shift
    return None


def word_for(line, stretch, shift):
    """The least number of bits that hold m, c and all m * n + c of a shift LINE that serves; None if none do."""
    found = multipliers(line, stretch, shift)
    if found is None or found[1] < 0:
        return None
    # With a greater m no m * n + c at the last number becomes less, and the greatest c sinks.
    m = max(found[0], 0)
    least, greatest = adds(line, stretch, shift, m)
    if greatest < 0:
        return None
    return (m * stretch[1] + max(least, 0)).bit_length()


def by_rounding_up(line, shift):
    """The shift LINE whose m and c are rounded up."""
    a, b, d = line
    bottom = 1 << shift
    return (-(-a * bottom // d), -(-b * bottom // d), bottom)


def by_one_more(line, shift):
    """The shift LINE whose m and c are rounded down, c and m more."""
    a, b, d = line
    bottom = 1 << shift
    m = a * bottom // d
    return (m, b * bottom // d + m, bottom)


def reach(line, other):
    """The greatest R such that both have the same values from 0 to R; None if they have at all n from 0 on."""
    found = [first_number_above(line, other, 0), first_number_above(other, line, 0)]
    unlike = [n for n in found if n is not None]
    return min(unlike) - 1 if unlike else None


def least_rounding_shift(line, stretch):
    """The least shift with which by_rounding_up(line, shift) serves; None if there is none."""
    _need_two(stretch)
    for shift in range(MOST_SHIFT + 1):
        if same_on(line, by_rounding_up(line, shift), stretch):
            return shift
    return None


def _need_two(stretch):
    if stretch[0] == stretch[1]:
        raise TooFew()


def _starts_at_nought(line, stretch):
    """Whether the value at 0 is 0, as that of each bare one is, or 0 is not in the STRETCH."""
    return not stretch[0] <= 0 <= stretch[1] or value(line, 0) == 0


def _bare_sides(line, stretch):
    """Triples (sign, low, high), for the numbers above and those below 0 of the STRETCH.

    (m, 0, d) serves there exactly if low <= sign * m / d < high.
    """
    first, last = stretch
    sides = []
    if last > 0:
        sides.append((1, line, (max(first, 1), last)))
    if first < 0:
        sides.append((-1, mirrored(line), (max(-last, 1), -first)))
    found = []
    for sign, seen, part in sides:
        low = greatest_quotient([(y, n) for n, y in upper_corners(seen, part)])
        high = least_quotient([(y + 1, n) for n, y in lower_corners(seen, part)])
        found.append((sign, low, high))
    return found


def _tops_of_sides(sides, bottom):
    """The least and the greatest m such that (m, 0, bottom) serves on all sides; None if there is none."""
    leasts, greatests = [], []
    for sign, low, high in sides:
        ends = (-(-low[0] * bottom // low[1]), -(-high[0] * bottom // high[1]) - 1)
        leasts.append(ends[0] if sign == 1 else -ends[1])
        greatests.append(ends[1] if sign == 1 else -ends[0])
    least, greatest = max(leasts), min(greatests)
    return (least, greatest) if least <= greatest else None
