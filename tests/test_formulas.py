"""[7] and [1] (b): all LINEs that serve."""

import random
import unittest
from fractions import Fraction

from floorcorners.compare import same_on
from floorcorners.errors import NoNumber
from floorcorners.formulas import (
    additions, bars, how_many_lines, is_bars, least_line, looks, nth_line, number_of_line, slopes,
)
from floorcorners.lines import turned, value, values
from tests.plain import BOUND, drawn_line, greatest_worth, points, slope
from tests.ways import check_ways


def drawn_cases(seed, many, longest=12):
    """LINEs and STRETCHes of two numbers or more."""
    draw = random.Random(seed)
    for _ in range(many):
        line = drawn_line(draw, draw.choice((2, 5, 12, 40)))
        first = draw.randint(-15, 15)
        yield draw, line, (first, first + draw.choice((1, 2, 3, draw.randint(1, longest), longest)))


def long_cases(seed, many):
    draw = random.Random(seed)
    for _ in range(many):
        line = drawn_line(draw, draw.choice((9, 10 ** 6, 10 ** 20, BOUND)))
        first = draw.randint(-BOUND, BOUND - 2)
        yield draw, line, (first, draw.choice((BOUND, draw.randint(first + 1, BOUND), min(BOUND, first + 1 + 10 ** 9))))


def plain_slopes(line, stretch):
    """The lower and the upper slope as Fractions, from all pairs of POINTs."""
    found = points(line, stretch)
    pairs = [(left, right) for place, left in enumerate(found) for right in found[place + 1:]]
    return (max([slope(left, right) - Fraction(1, right[0] - left[0]) for left, right in pairs]),
            min([slope(left, right) + Fraction(1, right[0] - left[0]) for left, right in pairs]))


def plain_lines(line, stretch, d):
    """All LINEs with this d that serve, on a STRETCH of two numbers or more, ascending."""
    wanted = values(line, stretch)
    first = stretch[0]
    growths = [right - left for left, right in zip(wanted, wanted[1:])]
    found = []
    for a in range(d * (min(growths) - 1), d * (max(growths) + 1) + 1):
        least = d * wanted[0] - a * first
        found += [(a, b, d) for b in range(least, least + d) if values((a, b, d), stretch) == wanted]
    return found


def pair(fraction):
    return (fraction.numerator, fraction.denominator)


class Examples(unittest.TestCase):
    def setUp(self):
        self.third = (1, 0, 3)

    def test_slopes_and_least_lines(self):
        third = self.third
        self.assertEqual(
            (slopes(third, (0, 5)), slopes(third, (0, 7)), slopes(third, (0, 2)), slopes(third, (4, 4)),
             least_line((979, 17, 32), (0, 11)), least_line(third, (0, 2)), least_line((7, 5, 16), (9, 9))),
            (((0, 1), (2, 5)), ((1, 4), (2, 5)), ((-1, 2), (1, 2)), (None, None), (153, 2, 5), (0, 0, 1), (0, 4, 1)))

    def test_numbered_lines(self):
        third = self.third
        self.assertEqual(
            (how_many_lines(third, (0, 5), 8), [nth_line(third, (0, 5), 8, number) for number in range(4)],
             number_of_line(third, (0, 5), (2, 3, 8)), number_of_line(third, (0, 5), (2, 4, 8)),
             additions(third, (0, 5), 2, 8), additions(third, (0, 5), 4, 8)),
            (4, [(1, 5, 8), (2, 2, 8), (2, 3, 8), (3, 0, 8)], 2, None, (2, 3), None))

    def test_counts(self):
        third = self.third
        self.assertEqual(
            (how_many_lines(third, (0, 7), 2), how_many_lines(third, (0, 7), 8), additions(third, (0, 7), 3, 8),
             how_many_lines(third, (4, 4), 8), additions(third, (4, 4), 9, 8)),
            (0, 1, (0, 0), None, (-28, -21)))

    def test_bars(self):
        third = self.third
        self.assertEqual(
            (is_bars(third, (0, 5), ((2, 3), (0, 5))), is_bars(third, (0, 5), ((0, 3), (0, 5))),
             is_bars(third, (0, 5), ((0, 1), (0, 5))), is_bars(third, (0, 5), bars(third, (0, 5))),
             bars(third, (1, 1)), len(looks(third, (0, 5))) <= 4),
            (True, True, False, True, None, True))

    def test_no_number(self):
        with self.assertRaises(NoNumber) as caught:
            nth_line(self.third, (0, 5), 8, 4)
        self.assertEqual(caught.exception.number, 4)


class Slopes(unittest.TestCase):
    def test_beside_all_pairs(self):
        for _, line, stretch in drawn_cases(71, 400, 20):
            low, high = plain_slopes(line, stretch)
            self.assertEqual(slopes(line, stretch), (pair(low), pair(high)), (line, stretch))
            (m, n), (left, right) = bars(line, stretch)
            self.assertTrue(stretch[0] <= m < n <= stretch[1] and stretch[0] <= left < right <= stretch[1])
            self.assertEqual(Fraction(value(line, n) - value(line, m) - 1, n - m), low)
            self.assertEqual(Fraction(value(line, right) - value(line, left) + 1, right - left), high)

    def test_of_all_lines_with_small_d(self):
        """[1] (b): the slopes of those that serve are all between, and all that are between come."""
        for _, line, stretch in drawn_cases(72, 150):
            low, high = plain_slopes(line, stretch)
            for d in range(1, 7):
                found = sorted({a for a, _, _ in plain_lines(line, stretch, d)})
                between = [a for a in range(int(low * d) - 2, int(high * d) + 3) if low < Fraction(a, d) < high]
                self.assertEqual(found, between)

    def test_is_bars_of_all_pairs(self):
        for _, line, stretch in drawn_cases(73, 60, 6):
            low, high = plain_slopes(line, stretch)
            around = range(stretch[0] - 1, stretch[1] + 2)
            inside = range(stretch[0], stretch[1] + 1)
            pairs = [(m, n) for m in around for n in around]
            lower = [(m, n) for m in inside for n in inside
                     if m < n and Fraction(value(line, n) - value(line, m) - 1, n - m) == low]
            upper = [(m, n) for m in inside for n in inside
                     if m < n and Fraction(value(line, n) - value(line, m) + 1, n - m) == high]
            for found in pairs:
                self.assertIs(is_bars(line, stretch, (found, upper[-1])), found in lower, (line, stretch, found))
                self.assertIs(is_bars(line, stretch, (lower[0], found)), found in upper, (line, stretch, found))

    def test_is_bars_of_all_kinds_of_things(self):
        third, stretch = (1, 0, 3), (0, 5)
        deep = ((2, 3), (0, 5))
        for _ in range(10):
            deep = (deep, (0, 5))
        for thing in (
                None, True, False, 0, 7, "", "((2, 3), (0, 5))", (), [], ((), ()), ((2, 3),), (2, 3, 0, 5), (2, 3),
                ((2, 3), (0, 5), (0, 5)), [(2, 3), (0, 5)], ([2, 3], (0, 5)), ((2, 3), [0, 5]), ((2, 3), 5),
                (2, (0, 5)),
                ((3, 2), (0, 5)), ((2, 3), (5, 0)), ((2, 2), (0, 5)), ((2, 3), (0, 0)), ((2, 3, 3), (0, 5)),
                ((2,), (0, 5)), ((2, None), (0, 5)), ((2, "3"), (0, 5)), ((2, 3), (False, 5)), ((2, 3), (0, True)),
                ((0, True), (0, 5)), ((True, 3), (0, 5)), (None, None), ((0, 5), (2, 3)), ((-1, 3), (0, 5)),
                ((2, 6), (0, 5)), ((10 ** 60, 10 ** 61), (0, 5)), (((2, 3),), (0, 5)), ((2, 3), (0, (5,))), deep):
            self.assertIs(is_bars(third, stretch, thing), False, thing)
        self.assertIs(is_bars(third, stretch, ((1, 3), (0, 5))), True)
        # (1 - 1) / (3 - 0) and (1 + 1) / (5 - 0); a 1 that is True is no number.
        self.assertIs(is_bars(third, stretch, ((True, 3), (0, 5))), False)
        for thing in (None, ((4, 4), (4, 4)), (None, None), ((4, 5), (4, 5)), ((3, 4), (3, 4)), ()):
            self.assertIs(is_bars(third, (4, 4), thing), False)

    def test_of_long_stretches(self):
        """No pair of numbers is steeper (flatter): another way to the greatest worths tells."""
        for _, line, stretch in long_cases(74, 150):
            (low, high), (lower, upper) = slopes(line, stretch), bars(line, stretch)
            self.assertIs(is_bars(line, stretch, (lower, upper)), True)
            for found, (m, n), more in ((low, lower, -1), (high, upper, 1)):
                self.assertEqual(found, pair(Fraction(value(line, n) - value(line, m) + more, n - m)))
            self.assertTrue(Fraction(*low) < Fraction(line[0], line[2]) < Fraction(*high))
            for p, q in (low, high):
                most = greatest_worth(line, stretch, -p, q) + greatest_worth(turned(line), stretch, p, q)
                self.assertEqual(most, q, (line, stretch))


class LeastLine(unittest.TestCase):
    def test_beside_all_lines(self):
        for _, line, stretch in drawn_cases(75, 300):
            d = 1
            while not plain_lines(line, stretch, d):
                d += 1
            self.assertEqual([least_line(line, stretch)], plain_lines(line, stretch, d), (line, stretch))

    def test_a_stretch_of_one_number(self):
        for line, n in (((7, 5, 16), 9), ((-3, -5, 2), -4), ((1, 0, 3), 0), ((BOUND, 1, 2), BOUND)):
            self.assertEqual(least_line(line, (n, n)), (0, value(line, n), 1))

    def test_of_long_stretches(self):
        """It serves, and no FRACTION between the slopes is simpler: the next simpler ones are beyond them."""
        for _, line, stretch in long_cases(76, 150):
            a, b, d = least_line(line, stretch)
            self.assertIs(same_on(line, (a, b, d), stretch), True)
            self.assertEqual(additions(line, stretch, a, d), (b, b))
            low, high = [Fraction(*found) for found in slopes(line, stretch)]
            if d > 1:
                left = pow(a, -1, d)
                self.assertLessEqual(Fraction(a * left - 1, d * left), low)
                self.assertGreaterEqual(Fraction(a * (d - left) + 1, d * (d - left)), high)

    def test_a_long_stretch_tells_the_line(self):
        line = (10 ** 18 + 9, 5, 10 ** 18 + 10)
        self.assertEqual(least_line(line, (-BOUND, BOUND)), line)
        self.assertEqual(least_line((6, 3, 10), (-BOUND, BOUND)), (3, 1, 5))
        self.assertEqual(least_line((7, 10 ** 39, 1), (-BOUND, 1 - BOUND)), (7, 10 ** 39, 1))


class Numbered(unittest.TestCase):
    def check(self, line, stretch, d):
        found = plain_lines(line, stretch, d)
        self.assertEqual(how_many_lines(line, stretch, d), len(found), (line, stretch, d))
        for number, other in enumerate(found):
            self.assertEqual(nth_line(line, stretch, d, number), other)
            self.assertEqual(number_of_line(line, stretch, other), number)
        for number in (-1, -BOUND, len(found), len(found) + 1, 10 ** 99):
            with self.assertRaises(NoNumber) as caught:
                nth_line(line, stretch, d, number)
            self.assertEqual(caught.exception.number, number)
        for a, b, _ in found[:1] + found[-1:]:
            for other in ((a, b - 1, d), (a, b + 1, d), (a - 1, b, d), (a + 1, b, d)):
                self.assertEqual(number_of_line(line, stretch, other), found.index(other) if other in found else None)

    def test_beside_all_lines(self):
        for _, line, stretch in drawn_cases(77, 120):
            for d in (1, 2, 3, 4, 5, 8):
                self.check(line, stretch, d)

    def test_greater_d(self):
        for draw, line, stretch in drawn_cases(78, 25):
            self.check(line, stretch, draw.randint(15, 40))

    def test_additions(self):
        for draw, line, stretch in drawn_cases(79, 150):
            d = draw.randint(1, 9)
            found = plain_lines(line, stretch, d)
            least = min([a for a, _, _ in found], default=line[0])
            for a in range(least - 2, max([a for a, _, _ in found], default=line[0]) + 3):
                those = [b for other, b, _ in found if other == a]
                self.assertEqual(additions(line, stretch, a, d), (those[0], those[-1]) if those else None)
                self.assertEqual(those, list(range(those[0], those[-1] + 1)) if those else [])

    def test_a_stretch_of_one_number(self):
        for line, n in (((1, 0, 3), 4), ((-7, 2, 5), -9), ((1, 0, 3), BOUND)):
            for d in (1, 8, BOUND):
                self.assertIsNone(how_many_lines(line, (n, n), d))
                for number in (0, 1, -1, 10 ** 90):
                    with self.assertRaises(NoNumber) as caught:
                        nth_line(line, (n, n), d, number)
                    self.assertEqual(caught.exception.number, number)
                for a in (0, 9, -BOUND):
                    least = d * value(line, n) - a * n
                    self.assertEqual(additions(line, (n, n), a, d), (least, least + d - 1))
            self.assertIsNone(number_of_line(line, (n, n), line))

    def test_two_numbers_with_the_value_0(self):
        """b is from 0 to d - 1 and a + b, too: d * d LINEs, d - |a| with each a."""
        for d in (1, 2, 3, 10 ** 18, BOUND):
            line, stretch = (0, 0, 1), (0, 1)
            self.assertEqual(how_many_lines(line, stretch, d), d * d)
            self.assertEqual(nth_line(line, stretch, d, 0), (1 - d, d - 1, d))
            self.assertEqual(nth_line(line, stretch, d, d * (d - 1) // 2), (0, 0, d))
            self.assertEqual(nth_line(line, stretch, d, d * (d + 1) // 2 - 1), (0, d - 1, d))
            self.assertEqual(nth_line(line, stretch, d, d * d - 1), (d - 1, 0, d))
            self.assertEqual(number_of_line(line, stretch, (0, 0, d)), d * (d - 1) // 2)
            self.assertIsNone(number_of_line(line, stretch, (d, 0, d)))
            with self.assertRaises(NoNumber):
                nth_line(line, stretch, d, d * d)

    def test_great_d_and_long_stretches(self):
        for draw, line, stretch in long_cases(80, 60):
            length = stretch[1] - stretch[0]
            d = draw.choice((line[2], 5 * line[2], length * length * draw.randint(1, 9), draw.randint(1, BOUND)))
            many = how_many_lines(line, stretch, d)
            numbers = {0, many - 1, many // 2, draw.randint(0, max(0, many - 1)), many // 3}
            for number in sorted(numbers if many else []):
                a, b, _ = other = nth_line(line, stretch, d, number)
                self.assertIs(same_on(line, other, stretch), True)
                self.assertEqual((other[2], number_of_line(line, stretch, other)), (d, number))
                least, greatest = additions(line, stretch, a, d)
                if number + 1 < many:
                    following = (a, b + 1) if b < greatest else (a + 1, additions(line, stretch, a + 1, d)[0])
                    self.assertEqual(nth_line(line, stretch, d, number + 1), (*following, d))
                else:
                    self.assertEqual((b, additions(line, stretch, a + 1, d)), (greatest, None))
                if number == 0:
                    self.assertEqual((b, additions(line, stretch, a - 1, d)), (least, None))
            with self.assertRaises(NoNumber) as caught:
                nth_line(line, stretch, d, many)
            self.assertEqual(caught.exception.number, many)

    def test_counts_of_great_d_are_sums_over_a(self):
        for draw, line, stretch in drawn_cases(81, 30):
            d = draw.randint(100, 400)
            low, high = plain_slopes(line, stretch)
            tops = range(int(low * d) - 2, int(high * d) + 3)
            found = [additions(line, stretch, a, d) for a in tops]
            many = sum([greatest - least + 1 for least, greatest in [span for span in found if span is not None]])
            self.assertEqual(how_many_lines(line, stretch, d), many)


class Looks(unittest.TestCase):
    def test_each_line_with_these_values_serves(self):
        for _, line, stretch in drawn_cases(82, 120):
            found = looks(line, stretch)
            self.assertLessEqual(len(found), 4)
            self.assertEqual(list(found), sorted(set(found)))
            self.assertTrue(stretch[0] <= found[0] and found[-1] <= stretch[1])
            wanted = values(line, stretch)
            for d in range(1, 8):
                for other in self.lines_there(line, found, d):
                    self.assertEqual(values(other, stretch), wanted, (line, stretch, found, other))

    def lines_there(self, line, found, d):
        """All LINEs with this d that have the values of line at the numbers found."""
        first, last = found[0], found[-1]
        middle = d * (value(line, last) - value(line, first)) // (last - first)
        for a in range(middle - d, middle + d + 1):
            least = d * value(line, first) - a * first
            for b in range(least, least + d):
                if [value((a, b, d), n) for n in found] == [value(line, n) for n in found]:
                    yield (a, b, d)

    def test_on_long_stretches(self):
        """The LINEs of a great d that serve on the looks alone are not more than on the whole STRETCH.

        With the slope of each, b has the same ends: those that the looks leave, and those of the STRETCH.
        """
        for draw, line, stretch in long_cases(83, 80):
            found = looks(line, stretch)
            self.assertTrue(len(found) <= 4 and list(found) == sorted(set(found)))
            self.assertTrue(stretch[0] <= found[0] and found[-1] <= stretch[1])
            low, high = [Fraction(*side) for side in slopes(line, stretch)]
            d = (stretch[1] - stretch[0]) ** 2 * 40
            least, greatest = int(low * d), int(high * d)
            for a in (least - 3, least + 2, (least + greatest) // 2, greatest - 2, greatest + 3,
                      draw.randint(least, greatest)):
                lowest = max([d * value(line, n) - a * n for n in found])
                highest = min([d * value(line, n) - a * n + d - 1 for n in found])
                self.assertEqual(additions(line, stretch, a, d), (lowest, highest) if lowest <= highest else None)

    def test_a_stretch_of_one_number(self):
        for n in (0, -7, BOUND):
            self.assertEqual(looks((5, 3, 7), (n, n)), (n,))


class Calls(unittest.TestCase):
    def test_lists_names_and_arguments_that_stay(self):
        for stretch in ((-9, 30), (0, 5), (4, 4)):
            line = (5, 2, 8)
            for function in (slopes, bars, least_line, looks):
                check_ways(self, function, line=line, stretch=stretch)
            for thing in (bars(line, stretch), ((0, 1), (0, 5)), [[0, 1], [0, 5]], None):
                check_ways(self, is_bars, plain=("thing",), line=line, stretch=stretch, thing=thing)
            for d in (1, 8, 24):
                check_ways(self, how_many_lines, line=line, stretch=stretch, d=d)
                check_ways(self, additions, line=line, stretch=stretch, a=15, d=d)
                for number in (0, 3, -1, 10 ** 50):
                    check_ways(self, nth_line, line=line, stretch=stretch, d=d, number=number)
            for other in ((5, 2, 8), (15, 7, 24), (1, 0, 3)):
                check_ways(self, number_of_line, line=line, stretch=stretch, other=other)
