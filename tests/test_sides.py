"""The first number from which on one LINE is above another one, and where it is not under it."""

import random
import unittest

from floorcorners.lines import value
from floorcorners.sides import first_number_above, part_not_under
from tests.plain import drawn_line

FAR = 400


class Sides(unittest.TestCase):
    def check_first(self, one, other, start):
        """Up to FAR by looking; where nothing is found so far, at the number that is told and the one ahead."""
        found = [n for n in range(start, start + FAR) if value(one, n) > value(other, n)]
        n = first_number_above(one, other, start)
        if found:
            self.assertEqual(n, found[0], (one, other, start))
        elif n is not None:
            self.assertGreaterEqual(n, start + FAR)
            self.assertGreater(value(one, n), value(other, n))
            self.assertLessEqual(value(one, n - 1), value(other, n - 1))

    def test_drawn_pairs(self):
        draw = random.Random(51)
        for _ in range(1500):
            one = drawn_line(draw, draw.choice((2, 6, 20, 90)))
            many = draw.randint(1, 5)
            near = (one[0] * many + draw.randint(-1, 1), one[1] * many + draw.randint(-many, many),
                    max(1, one[2] * many + draw.randint(-1, 1)))
            for other in (near, drawn_line(draw, 20)):
                self.check_first(one, other, draw.randint(-40, 40))

    def test_all_small_pairs(self):
        small = [(a, b, d) for d in (1, 2, 3) for a in range(-3, 4) for b in range(-d, d + 1)]
        for one in small[::2]:
            for other in small[1::3]:
                self.check_first(one, other, -4)

    def test_none_at_all(self):
        self.assertIsNone(first_number_above((1, 0, 3), (1, 0, 3), -10 ** 40))
        self.assertIsNone(first_number_above((1, 0, 3), (3, 0, 8), 0))
        self.assertIsNone(first_number_above((-1, 0, 3), (0, 0, 1), 0))
        self.assertEqual(first_number_above((-1, 0, 3), (0, 0, 1), -9), -9)
        self.assertIsNone(first_number_above((2, 1, 5), (4, 2, 10), -10 ** 40))
        self.assertIsNone(first_number_above((2, 1, 5), (4, 3, 10), -10 ** 40))

    def test_slopes_one_below_and_one_above_a_whole_number(self):
        great = 10 ** 40
        self.assertEqual(first_number_above((great + 1, 0, great), (great - 1, 0, great), 1), 1)
        self.assertEqual(first_number_above((great + 1, 0, great), (great - 1, great - 1, great), 1), great)
        self.assertEqual(first_number_above((great, 0, great), (great - 1, great - 1, great), 0), great)
        self.assertEqual(first_number_above((great + 1, -1, great), (great, 0, great), 0), great + 1)

    def check_part(self, one, other, stretch):
        found = [n for n in range(stretch[0], stretch[1] + 1)
                 if (one[0] * n + one[1]) * other[2] >= (other[0] * n + other[1]) * one[2]]
        expected = (found[0], found[-1]) if found else None
        self.assertEqual(part_not_under(one, other, stretch), expected, (one, other, stretch))

    def test_parts_of_all_small_pairs(self):
        small = [(a, b, d) for d in (1, 2, 3) for a in range(-2, 3) for b in range(-3, 4)]
        for one in small[::2]:
            for other in small:
                self.check_part(one, other, (-4, 3))
                self.check_part(one, other, (2, 2))

    def test_parts(self):
        draw = random.Random(52)
        for _ in range(800):
            first = draw.randint(-25, 25)
            self.check_part(drawn_line(draw, 9), drawn_line(draw, 9), (first, first + draw.randint(0, 25)))

    def test_cones_around_a_whole_slope(self):
        """One rises by more than 1, the other one by less, some of them by very little."""
        for d in (2, 3, 7, 12):
            for more in (1, d - 1, d + 1, 5 * d):
                for less in (1, d - 1):
                    for b in range(-d, 2 * d):
                        self.check_first((d + more, b, d), (d - less, d - 1, d), -1)
                        self.check_first((d + more, b, d), (3 * d - 1, 3 * d - 1, 3 * d), 0)
