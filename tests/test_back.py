"""[14] and [1] (e): LINEs the other way about, there and back."""

import random
import unittest

from floorcorners.back import (
    first_lost, greatest_at, greatest_slip, how_many_at, inverse_greatest, inverse_least, is_lossless, is_one_to_one,
    is_onto, least_at, least_back, least_slip, there_and_back,
)
from floorcorners.corners import lower_corners, upper_corners
from floorcorners.fitting import ends_if_fitting, ends_of_slopes
from floorcorners.lines import raised, rounded_up, turned, value
from floorcorners.told import can_fit
from tests.plain import BOUND, drawn_cases, drawn_line, long_cases, near_line, points
from tests.test_told import long_cases as long_told
from tests.ways import check_ways

CASES = ((2, 4, 15, 60), 25, 20)


def rising_line(draw, most):
    return (draw.randint(1, most), draw.randint(-most, most), draw.randint(1, most))


def way_back(draw, one):
    """A LINE by which many numbers come back: one of the inverse ones, or one near it; or any LINE."""
    a, b, d = one
    if a == 0 or draw.random() < 0.2:
        return drawn_line(draw, 15)
    rising = one if a > 0 else (-a, -b, d)
    back = draw.choice((inverse_least, inverse_greatest))(rising)
    if a < 0:
        back = (-back[0], back[1], back[2])
    return near_line(draw, back) if draw.random() < 0.5 else raised(back, draw.choice((0, 0, 1, -1)))


def plain_back(one, stretch):
    """The LINE of least_back, by going through all d, a and b; None if two numbers have the same value."""
    found = points(one, stretch)
    if len({y for _, y in found}) < len(found):
        return None
    d = 0
    while True:
        d += 1
        for size in range(d * len(found) * 2 + 1):
            for a in (size, -size):
                low = d * found[0][0] - a * found[0][1]
                for b in range(low, low + d):
                    if all((a * y + b) // d == n for n, y in found):
                        return (a, b, d)


class Examples(unittest.TestCase):
    def setUp(self):
        self.ticks, self.millis = (125, 0, 4096), (4096, 0, 125)

    def test_the_other_way_about(self):
        self.assertEqual(
            (least_at((2, 1, 3), 4), greatest_at((2, 1, 3), 4), inverse_least((2, 1, 3)), inverse_greatest((2, 1, 3)),
             [how_many_at((2, 1, 3), y) for y in range(4)], least_at((1, 0, 1), -7)),
            (6, 6, (3, 0, 2), (3, 1, 2), [1, 2, 1, 2], -7))

    def test_one_to_one_and_onto(self):
        self.assertEqual(
            (is_one_to_one((2, 1, 3), (0, 1)), is_one_to_one((2, 1, 3), (1, 2)), is_one_to_one((2, 1, 3), (0, 2)),
             is_onto((2, 1, 3), (0, 9)), is_onto((5, 0, 3), (0, 1)), is_onto((5, 0, 3), (0, 2)),
             is_one_to_one((-5, 2, 3), (-9, 9)), is_onto((-2, 0, 3), (-9, 9))),
            (True, False, False, True, True, False, True, True))

    def test_there_and_back(self):
        ticks, millis = self.ticks, self.millis
        self.assertEqual(
            (there_and_back(millis, ticks, 1), is_lossless(millis, (125, 4095, 4096), (0, 1000)),
             first_lost(millis, ticks, (0, 1000)), least_slip(millis, ticks, (0, 1000)),
             greatest_slip(millis, ticks, (0, 1000)), is_lossless(millis, ticks, (0, 0))),
            (0, True, 1, -1, 0, True))

    def test_least_back(self):
        self.assertEqual(
            (least_back((3, 1, 2), (0, 9)), least_back((1, 0, 2), (0, 9)), least_back((1, 0, 2), (0, 1)),
             least_back((7, 0, 5), (4, 4)), least_back((-1, 3, 1), (0, 5))),
            ((2, 0, 3), None, None, (0, 4, 1), (-1, 3, 1)))


class BesideAPlainWalk(unittest.TestCase):
    def test_the_other_way_about(self):
        draw = random.Random(221)
        for _ in range(300):
            line = rising_line(draw, draw.choice((2, 7, 30)))
            found = points(line, (-1200, 1200))
            for y in [value(line, draw.randint(-30, 30)) + draw.randint(-1, 1) for _ in range(4)]:
                least = min([n for n, height in found if height >= y])
                greatest = max([n for n, height in found if height <= y])
                self.assertEqual((least_at(line, y), greatest_at(line, y)), (least, greatest), (line, y))
                self.assertEqual(value(inverse_least(line), y), least)
                self.assertEqual(value(inverse_greatest(line), y), greatest)
                self.assertEqual(how_many_at(line, y), len([n for n, height in found if height == y]), (line, y))
            a, b, d = line
            self.assertEqual((inverse_least(line), inverse_greatest(line)), ((d, a - 1 - b, a), (d, d - 1 - b, a)))

    def test_one_to_one_and_onto(self):
        kinds = set()
        for _, line, stretch in drawn_cases(222, 700, *CASES):
            heights = [y for _, y in points(line, stretch)]
            one_to_one = len(set(heights)) == len(heights)
            onto = set(heights) == set(range(min(heights), max(heights) + 1))
            kinds.add((one_to_one, onto, (line[0] > 0) - (line[0] < 0)))
            self.assertIs(is_one_to_one(line, stretch), one_to_one, (line, stretch))
            self.assertIs(is_onto(line, stretch), onto, (line, stretch))
        self.assertEqual(len(kinds), 8)

    def test_there_and_back(self):
        kept = 0
        for draw, one, stretch in drawn_cases(223, 900, *CASES):
            other = way_back(draw, one)
            ways = [(n, value(other, value(one, n))) for n in range(stretch[0], stretch[1] + 1)]
            lost = [n for n, comes in ways if comes != n]
            kept += len(ways) - len(lost)
            self.assertEqual([there_and_back(one, other, n) for n, _ in ways], [comes for _, comes in ways])
            self.assertEqual(first_lost(one, other, stretch), min(lost, default=None), (one, other, stretch))
            self.assertIs(is_lossless(one, other, stretch), not lost)
            slips = [comes - n for n, comes in ways]
            self.assertEqual(least_slip(one, other, stretch), min(slips), (one, other, stretch))
            self.assertEqual(greatest_slip(one, other, stretch), max(slips), (one, other, stretch))
            at_corners = [there_and_back(one, other, n) - n
                          for n, _ in upper_corners(one, stretch) + lower_corners(one, stretch)]
            self.assertEqual((min(at_corners), max(at_corners)), (min(slips), max(slips)))
        self.assertGreater(kept, 1000)

    def test_least_back(self):
        some = falling = 0
        draw = random.Random(224)
        for _ in range(400):
            one = draw.choice((drawn_line(draw, 9), (draw.randint(-30, 30), draw.randint(-30, 30), draw.randint(1, 9))))
            first = draw.randint(-12, 12)
            stretch = (first, first + draw.choice((0, 1, 2, 3, 5, 8)))
            expected = plain_back(one, stretch)
            some += expected is not None
            falling += expected is not None and expected[0] < 0
            self.assertEqual(least_back(one, stretch), expected, (one, stretch))
        self.assertGreater(some, 200)
        self.assertGreater(falling, 50)


class Edges(unittest.TestCase):
    def test_a_stretch_of_one_number(self):
        for line in ((0, 5, 1), (1, 0, 9), (-7, 3, 2), (BOUND, -BOUND, 1)):
            for n in (-BOUND, -3, 0, 8, BOUND):
                self.assertEqual(least_back(line, (n, n)), (0, n, 1))
                self.assertIs(is_one_to_one(line, (n, n)), True)
                self.assertIs(is_onto(line, (n, n)), True)
                comes = there_and_back(line, (3, -1, 2), n)
                self.assertEqual(first_lost(line, (3, -1, 2), (n, n)), None if comes == n else n)
                self.assertEqual((least_slip(line, (3, -1, 2), (n, n)), greatest_slip(line, (3, -1, 2), (n, n))),
                                 (comes - n, comes - n))

    def test_lines_that_stay(self):
        self.assertEqual((is_one_to_one((0, 7, 2), (3, 4)), is_onto((0, 7, 2), (3, 4))), (False, True))
        self.assertEqual((is_one_to_one((0, 7, 2), (3, 3)), least_back((0, 7, 2), (3, 4))), (True, None))
        # All numbers come to 3.
        self.assertEqual([first_lost((1, 0, 1), (0, 7, 2), (first, 9)) for first in (2, 3, 4)], [2, 4, 4])
        self.assertIsNone(first_lost((1, 0, 1), (0, 7, 2), (3, 3)))
        self.assertEqual((least_slip((5, 0, 1), (0, 7, 2), (-4, 9)), greatest_slip((5, 0, 1), (0, 7, 2), (-4, 9))),
                         (-6, 7))

    def test_a_growth_of_just_1(self):
        for line in ((7, 3, 7), (-7, 3, 7), (1, 0, 1), (-1, -5, 1)):
            self.assertIs(is_one_to_one(line, (-BOUND, BOUND)), True)
            self.assertIs(is_onto(line, (-BOUND, BOUND)), True)
        for line in ((6, 3, 7), (-6, 3, 7)):
            self.assertIs(is_one_to_one(line, (-BOUND, BOUND)), False)
            self.assertIs(is_onto(line, (-BOUND, BOUND)), True)
        for line in ((8, 3, 7), (-8, 3, 7)):
            self.assertIs(is_one_to_one(line, (-BOUND, BOUND)), True)
            self.assertIs(is_onto(line, (-BOUND, BOUND)), False)

    def test_numbers_with_no_value(self):
        """2 * n has no odd value: the least n from it on is behind the greatest n up to it."""
        self.assertEqual((least_at((2, 0, 1), 5), greatest_at((2, 0, 1), 5), how_many_at((2, 0, 1), 5)), (3, 2, 0))
        self.assertEqual((how_many_at((2, 0, 1), 4), how_many_at((1, 0, BOUND), -1)), (1, BOUND))


class GreatNumbers(unittest.TestCase):
    def test_the_other_way_about(self):
        draw = random.Random(231)
        for _ in range(200):
            line, y = rising_line(draw, draw.choice((9, 10 ** 20, BOUND))), draw.randint(-BOUND, BOUND)
            least, greatest = least_at(line, y), greatest_at(line, y)
            self.assertTrue(value(line, least - 1) < y <= value(line, least))
            self.assertTrue(value(line, greatest) <= y < value(line, greatest + 1))
            self.assertEqual(how_many_at(line, y), greatest - least + 1)

    def test_ticks_and_milliseconds(self):
        """Rounding up on the way back loses nothing; rounding down loses 1 but where there is nothing to round."""
        for per_second in (1, 4096, 10 ** 9 + 7, 10 ** 30):
            there, back = (per_second, 0, 1000), (1000, 0, per_second)
            up = rounded_up(1000, 0, per_second)
            stretch = (-BOUND, BOUND)
            if per_second >= 1000:
                self.assertIs(is_lossless(there, up, stretch), True)
                self.assertEqual((least_slip(there, up, stretch), greatest_slip(there, up, stretch)), (0, 0))
                self.assertIsNone(first_lost(there, up, stretch))
            whole = per_second % 1000 == 0
            self.assertIs(is_lossless(there, back, stretch), whole)
            if not whole:
                self.assertEqual(first_lost(there, back, (0, BOUND)), 1)

    def test_lost_for_the_first_time(self):
        """(n * (k + 1)) // k back by n * k // (k + 1) is n less 1 but at the multiples of k; rounded up it is n."""
        for k in (2, 10 ** 18, 10 ** 35 + 11):
            there, back = (k + 1, 0, k), (k, 0, k + 1)
            self.assertEqual([first_lost(there, back, (n, BOUND)) for n in (0, k, k + 1, -1)], [1, k + 1, k + 1, -1])
            self.assertEqual((least_slip(there, back, (1, BOUND)), greatest_slip(there, back, (1, BOUND))), (-1, 0))
            self.assertEqual(greatest_slip(there, back, (1, k - 1)), -1)
            near = (k * k + 1, k * k + k - 1, k * (k + 1))
            lost = first_lost(there, near, (0, BOUND ** 2))
            self.assertNotEqual(there_and_back(there, near, lost), lost)
            self.assertIs(is_lossless(there, near, (0, lost - 1)), True)

    def test_slips(self):
        for draw, one, stretch in long_cases(232, 80):
            other = way_back(draw, one)
            least, greatest = least_slip(one, other, stretch), greatest_slip(one, other, stretch)
            numbers = [draw.randint(*stretch) for _ in range(20)] + list(stretch)
            for n in numbers:
                self.assertTrue(least <= there_and_back(one, other, n) - n <= greatest)
            lost = first_lost(one, other, stretch)
            self.assertIs(is_lossless(one, other, stretch), lost is None)
            self.assertEqual(lost is None, least == greatest == 0)
            if lost is not None:
                self.assertNotEqual(there_and_back(one, other, lost), lost)
                if lost > stretch[0]:
                    ahead = (stretch[0], lost - 1)
                    self.assertEqual((least_slip(one, other, ahead), greatest_slip(one, other, ahead)), (0, 0))
                    self.assertIs(is_lossless(one, other, ahead), True)

    def test_least_back(self):
        some = 0
        for _, one, stretch in long_cases(233, 80):
            back = least_back(one, stretch)
            self.assertEqual(back is None, not is_one_to_one(one, stretch))
            if back is None:
                continue
            some += 1
            self.assertIs(is_lossless(one, back, stretch), True)
            a, b, d = back
            self.assertIs(is_lossless(one, (a, b - 1, d), stretch), False)
            # The inverse ones, which have this d, lose nothing either.
            if abs(one[0]) >= one[2]:
                self.assertLessEqual(d, abs(one[0]))
            for less in range(max(1, d - 40), d):
                for a in (back[0] * less // d, back[0] * less // d + 1):
                    # By its b: that with which the first number comes back at the corners, if any does.
                    corners = upper_corners(one, stretch) + lower_corners(one, stretch)
                    b = max([less * n - a * y for n, y in corners])
                    self.assertIs(is_lossless(one, (a, b, less), stretch), False)
        self.assertGreater(some, 20)

    def test_least_back_known_by_hand(self):
        """Far enough, a way back has just the slope 1 less over each growth; the least b is what the worst n needs."""
        for k in (3, 10 ** 15, 10 ** 39 + 1):
            # k - 2 comes to k - 2: (k - 1) * (k - 2) + b has to be at least k * (k - 2).
            self.assertEqual(least_back((k, 0, k - 1), (0, BOUND * 10)), (k - 1, k - 2, k))
            # 0 comes to 0.
            self.assertEqual(least_back((-k, 0, k - 1), (0, BOUND * 10)), (1 - k, 0, k))
        for k in (2, 10 ** 20, BOUND):
            self.assertEqual(least_back((k, 5, 1), (-BOUND, BOUND)), (1, -5, k))
            self.assertEqual(least_back((-k, 5, 1), (-BOUND, BOUND)), (-1, 5, k))
        self.assertEqual(least_back((1, BOUND, 1), (-BOUND, BOUND)), (1, -BOUND, 1))
        # BOUND has to come to less than 2.
        self.assertEqual(least_back((BOUND, 0, 1), (0, 1)), (1, 0, BOUND // 2 + 1))
        self.assertEqual(least_back(turned((BOUND, 0, 1)), (0, 1)), (-1, 0, BOUND // 2 + 1))


class Ends(unittest.TestCase):
    """The ends of the slopes of many TOLD values, beside those by all pairs."""

    def test_ends(self):
        for _, told, _ in long_told(234, 80):
            self.assertIs(can_fit(told), True)
            self.assertEqual(ends_if_fitting(told), ends_of_slopes(told))


class Calls(unittest.TestCase):
    def test_one_line(self):
        for line in ((5, 2, 8), (9, -2, 4)):
            for function in (inverse_least, inverse_greatest):
                check_ways(self, function, line=line)
            for function in (least_at, greatest_at, how_many_at):
                for y in (-3, 0, 4):
                    check_ways(self, function, line=line, y=y)
            for function in (is_one_to_one, is_onto):
                check_ways(self, function, line=line, stretch=(-2, 9))
            for stretch in ((-2, 9), (4, 4)):
                check_ways(self, least_back, one=line, stretch=stretch)

    def test_two_lines(self):
        for one, other in (((4096, 0, 125), (125, 0, 4096)), ((5, 2, 8), (0, 3, 1)), ((5, 2, 8), (-7, 1, 2))):
            for n in (-3, 0, 7):
                check_ways(self, there_and_back, one=one, other=other, n=n)
            for function in (is_lossless, first_lost, least_slip, greatest_slip):
                check_ways(self, function, one=one, other=other, stretch=(-5, 90))
