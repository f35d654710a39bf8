"""[12] and [1] (d): remainders, and TESTs by remainders."""

import random
import unittest

from floorcorners.corners import lower_corners, upper_corners
from floorcorners.lines import remainder
from floorcorners.remain import (
    first_below, first_from, first_mistake, greatest_remainder, how_many_pass, is_test, last_below, last_from,
    least_remainder, least_width, limits_for, passes, tells, usual_test,
)
from floorcorners.sums import how_many_with
from tests.plain import BOUND, drawn_cases, drawn_stretch, long_cases
from tests.ways import check_ways

CASES = ((1, 4, 15, 90, BOUND), 40, 30)
GREAT = 2 ** 300


def drawn_test(draw, most):
    size = draw.randint(1, most)
    return (draw.randint(-2 * size, 2 * size), size, draw.choice((0, size, draw.randint(0, size))))


def plain_mistakes(test, divisor, last):
    factor, size, limit = test
    return [n for n in range(last + 1) if (factor * n % size < limit) != (n % divisor == 0)]


def first_mistake_by_hand(divisor, width):
    """Of the usual TEST, of all numbers from 0 on; divisor from 2.

    The factor c is e / divisor more than 2 ** width / divisor. With n = k * divisor + r the remainder is k * e + c * r,
    until this comes to 2 ** width. At r = divisor - 1 it does first, at (k + 1) * e = c; but if e is more than c, then
    at the first r with c * r from 2 ** width on.
    """
    size = 2 ** width
    c = size // divisor + 1
    e = c * divisor - size
    return -(-c // e) * divisor - 1 if c >= e else -(-size // c)


class Examples(unittest.TestCase):
    def test_remainders(self):
        line = (3, 0, 8)
        self.assertEqual(
            (least_remainder(line, (1, 7)), greatest_remainder(line, (0, 4)), first_below(line, (1, 7), 2),
             last_below(line, (0, 7), 3), first_below(line, (1, 2), 3), first_from(line, (0, 9), 6),
             last_from(line, (0, 9), 6)),
            (1, 6, 3, 6, None, 2, 5))
        self.assertEqual(
            (least_remainder((7, 3, 10 ** 40), (1, 10 ** 39)), greatest_remainder((-1, 0, 5), (-3, -3)),
             first_below((-1, 0, 10 ** 30), (1, 10 ** 40), 1)),
            (10, 3, 1000000000000000000000000000000))

    def test_tests(self):
        self.assertEqual(
            (passes((3, 8, 3), 6), how_many_pass((3, 8, 3), (0, 15)), tells((171, 256, 86), 3, 255),
             first_mistake((171, 256, 86), 3, 300), tells((3, 8, 3), 3, 7), first_mistake((3, 8, 3), 3, 8),
             first_mistake((3, 8, 2), 3, 8)),
            (True, 6, True, 256, True, 8, 6))
        self.assertEqual(
            (limits_for(171, 256, 3, 255), limits_for(171, 256, 3, 9), limits_for(2, 4, 3, 5),
             limits_for(5, 9, 1, 10 ** 30), is_test((3, 8, 9)), is_test((-3, 8, 0))),
            ((86, 86), (4, 86), None, (9, 9), False, True))
        self.assertEqual(
            (usual_test(3, 3), usual_test(1, 0), least_width(3, 7), least_width(3, 8), least_width(1, 10 ** 40)),
            ((3, 8, 3), (2, 1, 1), 3, 5, 0))


class BesideAPlainWalk(unittest.TestCase):
    def test_remainders(self):
        for draw, line, stretch in drawn_cases(201, 500, *CASES):
            found = [(remainder(line, n), n) for n in range(stretch[0], stretch[1] + 1)]
            rests = [rest for rest, _ in found]
            least, greatest, d = min(rests), max(rests), line[2]
            self.assertEqual(least_remainder(line, stretch), least, (line, stretch))
            self.assertEqual(greatest_remainder(line, stretch), greatest, (line, stretch))
            for number in (-BOUND, -1, 0, 1, least, least + 1, greatest, greatest + 1, d - 1, d, d + 1, BOUND,
                           draw.randint(0, d), draw.choice(rests)):
                below = [n for rest, n in found if rest < number]
                others = [n for rest, n in found if rest >= number]
                self.assertEqual(first_below(line, stretch, number), min(below, default=None), (line, stretch, number))
                self.assertEqual(last_below(line, stretch, number), max(below, default=None), (line, stretch, number))
                self.assertEqual(first_from(line, stretch, number), min(others, default=None), (line, stretch, number))
                self.assertEqual(last_from(line, stretch, number), max(others, default=None), (line, stretch, number))

    def test_at_corners(self):
        for _, line, stretch in drawn_cases(202, 200, *CASES):
            uppers = [remainder(line, n) for n, _ in upper_corners(line, stretch)]
            lowers = [remainder(line, n) for n, _ in lower_corners(line, stretch)]
            self.assertEqual(least_remainder(line, stretch), min(uppers))
            self.assertEqual(greatest_remainder(line, stretch), max(lowers))

    def test_what_passes(self):
        draw = random.Random(203)
        for _ in range(400):
            test = drawn_test(draw, draw.choice((3, 12, 50)))
            factor, size, limit = test
            first, last = drawn_stretch(draw, 30, 40)
            passing = [n for n in range(first, last + 1) if (factor * n) % size < limit]
            self.assertEqual([n for n in range(first, last + 1) if passes(test, n)], passing, test)
            self.assertEqual(how_many_pass(test, (first, last)), len(passing), (test, first, last))
            self.assertIs(passes(test, first), first in passing)

    def test_what_tests_tell(self):
        draw = random.Random(204)
        telling = 0
        for _ in range(700):
            divisor, last = draw.randint(1, 13), draw.choice((0, 1, draw.randint(0, 60)))
            test = draw.choice((drawn_test(draw, 40), usual_test(divisor, draw.randint(0, 9)),
                                (1, divisor, min(1, divisor)), (-1, divisor, draw.randint(0, 1))))
            mistakes = plain_mistakes(test, divisor, last)
            telling += not mistakes
            self.assertIs(tells(test, divisor, last), not mistakes, (test, divisor, last))
            self.assertEqual(first_mistake(test, divisor, last), min(mistakes, default=None), (test, divisor, last))
        self.assertGreater(telling, 100)

    def test_limits(self):
        draw = random.Random(205)
        some = 0
        for _ in range(500):
            divisor, last, size = draw.randint(1, 9), draw.choice((0, 1, draw.randint(0, 40))), draw.randint(1, 40)
            factor = draw.choice((draw.randint(-2 * size, 2 * size), size // divisor + 1, -(size // divisor) - 1))
            good = [limit for limit in range(size + 1) if not plain_mistakes((factor, size, limit), divisor, last)]
            expected = (good[0], good[-1]) if good else None
            self.assertEqual(limits_for(factor, size, divisor, last), expected, (factor, size, divisor, last))
            if good:
                some += 1
                self.assertEqual(good, list(range(good[0], good[-1] + 1)))
        self.assertGreater(some, 150)

    def test_usual_tests_and_widths(self):
        for divisor in range(1, 14):
            for width in range(12):
                c = 2 ** width // divisor + 1
                self.assertEqual(usual_test(divisor, width), (c, 2 ** width, min(c, 2 ** width)))
            for last in (0, 1, 2, divisor - 1, divisor, 2 * divisor, 2 * divisor + 1, 40, 100):
                width = 0
                while plain_mistakes(usual_test(divisor, width), divisor, last):
                    width += 1
                self.assertEqual(least_width(divisor, last), width, (divisor, last))

    def test_what_is_known_by_hand(self):
        """What the great ones below are compared with."""
        for divisor in range(2, 30):
            for width in range(9):
                mistakes = plain_mistakes(usual_test(divisor, width), divisor, 900)
                by_hand = first_mistake_by_hand(divisor, width)
                self.assertEqual(min(mistakes, default=None), by_hand if by_hand <= 900 else None, (divisor, width))


class Edges(unittest.TestCase):
    def test_is_test(self):
        for thing in ((3, 8, 3), (0, 1, 0), (0, 1, 1), (-9, 2, 2), (GREAT, GREAT, GREAT), (-GREAT ** 3, GREAT ** 3, 0)):
            self.assertIs(is_test(thing), True, thing)
        for thing in ((3, 0, 0), (3, -8, 0), (3, 8, -1), (3, 8, 9), (3, 8), (3, 8, 3, 3), (), [3, 8, 3], (True, 8, 3),
                      (3, True, 1), (3, 8, True), (3, 8, False), (None, 8, 3), (3, None, 3), (3, 8, None), ("3", 8, 3),
                      (3, "8", 3), (3, 8, "3"), ((3,), 8, 3), (3, (8,), 3), (3, 8, (3,)), "abc", "", 7, None, True,
                      False, [], [[3, 8, 3]], ((3, 8, 3),), (3, 8, [3])):
            self.assertIs(is_test(thing), False, thing)

    def test_limits_of_nothing_and_of_all(self):
        for factor in (-7, 0, 3, GREAT):
            for size in (1, 8, GREAT):
                none, every = (factor, size, 0), (factor, size, size)
                for stretch in ((0, 0), (-9, 9), (-BOUND, BOUND)):
                    self.assertEqual(how_many_pass(none, stretch), 0)
                    self.assertEqual(how_many_pass(every, stretch), stretch[1] - stretch[0] + 1)
                self.assertIs(passes(none, 0), False)
                self.assertIs(passes(every, -5), True)
                self.assertIs(tells(none, 3, BOUND), False)
                self.assertEqual(first_mistake(none, 3, BOUND), 0)
                self.assertEqual(first_mistake(every, 3, BOUND), 1)
                self.assertIsNone(first_mistake(every, 1, BOUND))
                self.assertIs(tells(every, 1, BOUND), True)
                self.assertIs(tells(every, 3, 0), True)

    def test_no_multiple_but_0(self):
        self.assertEqual(limits_for(1, 10, 9, 8), (1, 1))
        self.assertEqual(limits_for(3, 10, 9, 2), (1, 3))
        self.assertEqual(limits_for(3, 10, 9, 0), (1, 10))
        self.assertIsNone(limits_for(5, 10, 9, 2))
        self.assertEqual(limits_for(0, 1, 1, BOUND), (1, 1))
        self.assertEqual(limits_for(0, 7, 1, BOUND), (1, 7))
        self.assertEqual((least_width(9, 0), least_width(BOUND, 0)), (0, 0))
        # With width 0 each number from 0 on passes; from width 1 on the factor 1 leaves n itself.
        self.assertEqual((least_width(9, 1), least_width(9, 3), least_width(BOUND, 1)), (1, 2, 1))

    def test_widths(self):
        self.assertEqual(usual_test(1, 300), (GREAT + 1, GREAT, GREAT))
        self.assertEqual(usual_test(BOUND, 0), (1, 1, 1))
        self.assertEqual(usual_test(2, 300), (2 ** 299 + 1, GREAT, 2 ** 299 + 1))


class GreatNumbers(unittest.TestCase):
    def test_remainders_beside_counts(self):
        for draw, line, stretch in long_cases(211, 60):
            least, greatest, d = least_remainder(line, stretch), greatest_remainder(line, stretch), line[2]
            self.assertEqual(how_many_with(line, stretch, 0, least - 1), 0)
            self.assertGreater(how_many_with(line, stretch, least, least), 0)
            self.assertEqual(how_many_with(line, stretch, greatest + 1, d), 0)
            self.assertGreater(how_many_with(line, stretch, greatest, greatest), 0)
            far = (stretch[1] - stretch[0]) // draw.choice((1, 10 ** 9, 10 ** 20)) + 1
            for number in (least, least + 1, greatest, greatest + 1, 1, d // far + 1, d - d // far, draw.randint(0, d)):
                self.check_ends(line, stretch, first_below, last_below, number, (0, number - 1))
                self.check_ends(line, stretch, first_from, last_from, number, (number, d))

    def check_ends(self, line, stretch, first_of, last_of, number, span):
        first, last = first_of(line, stretch, number), last_of(line, stretch, number)
        if first is None or last is None:
            self.assertEqual((first, last, how_many_with(line, stretch, *span)), (None, None, 0))
            return
        for n in (first, last):
            self.assertEqual(how_many_with(line, (n, n), *span), 1)
        if first > stretch[0]:
            self.assertEqual(how_many_with(line, (stretch[0], first - 1), *span), 0)
        if last < stretch[1]:
            self.assertEqual(how_many_with(line, (last + 1, stretch[1]), *span), 0)

    def test_multiples_known_by_hand(self):
        """n and -n by d: the remainders go up from 0 to d - 1, or down, again and again."""
        d = 10 ** 30 + 57
        self.assertEqual((first_below((1, 0, d), (1, BOUND), 1), last_below((1, 0, d), (1, 2 * d - 1), 1)), (d, d))
        self.assertEqual((first_from((1, 0, d), (-5, BOUND), d - 1), last_from((1, 0, d), (0, d), 9)), (-1, d - 1))
        self.assertEqual((first_from((-1, 0, d), (0, BOUND), 9), last_below((-1, 0, d), (0, d - 1), 9)), (1, d - 1))
        self.assertEqual((least_remainder((1, 0, d), (1, d - 1)), greatest_remainder((1, 0, d), (1, d - 1))),
                         (1, d - 1))
        self.assertEqual((least_remainder((2, 1, 2 * d), (-BOUND, BOUND)),
                          greatest_remainder((2, 1, 2 * d), (-BOUND, BOUND))), (1, 2 * d - 1))

    def test_usual_tests(self):
        draw = random.Random(212)
        for _ in range(60):
            divisor = draw.randint(2, draw.choice((9, 10 ** 9, 10 ** 20, BOUND)))
            width = draw.choice((300, draw.randint(0, 300)))
            test = usual_test(divisor, width)
            by_hand = first_mistake_by_hand(divisor, width)
            for last in (BOUND, draw.randint(0, BOUND), min(by_hand, BOUND), min(max(by_hand - 1, 0), BOUND)):
                expected = by_hand if by_hand <= last else None
                self.assertEqual(first_mistake(test, divisor, last), expected, (divisor, width, last))
                self.assertIs(tells(test, divisor, last), expected is None, (divisor, width, last))

    def test_widths(self):
        draw = random.Random(213)
        for _ in range(40):
            divisor = draw.randint(2, draw.choice((9, 10 ** 9, 10 ** 20, BOUND)))
            last = draw.randint(0, draw.choice((9, 10 ** 9, 10 ** 20, BOUND)))
            width = 0
            while first_mistake_by_hand(divisor, width) <= last:
                width += 1
            self.assertEqual(least_width(divisor, last), width, (divisor, last))

    def test_limits_known_by_hand(self):
        """With the usual factor c and width 300 the multiples leave 0, e, 2 * e .., all others c at the least."""
        draw = random.Random(214)
        for _ in range(40):
            divisor = draw.randint(2, draw.choice((9, 10 ** 9, BOUND)))
            last = draw.randint(1, BOUND)
            c = GREAT // divisor + 1
            e = c * divisor - GREAT
            self.assertEqual(limits_for(c, GREAT, divisor, last), (last // divisor * e + 1, c))
            self.assertEqual(limits_for(c - GREAT, GREAT, divisor, last), (last // divisor * e + 1, c))

    def test_limits_beside_tells(self):
        draw = random.Random(215)
        some = 0
        for _ in range(60):
            size = draw.choice((draw.randint(1, GREAT), draw.randint(1, BOUND)))
            divisor = draw.randint(1, draw.choice((5, 10 ** 9)))
            factor = size // divisor + draw.randint(0, 2)
            last = draw.choice((draw.randint(0, BOUND), divisor * draw.randint(0, 50)))
            limits = limits_for(factor, size, divisor, last)
            near = (1, size // divisor, size)
            if limits:
                some += 1
                near = (limits[0] - 1, limits[0], (limits[0] + limits[1]) // 2, limits[1], limits[1] + 1)
            for limit in near:
                if 0 <= limit <= size:
                    good = limits is not None and limits[0] <= limit <= limits[1]
                    self.assertIs(tells((factor, size, limit), divisor, last), good)
                    self.assertIs(first_mistake((factor, size, limit), divisor, last) is None, good)
        self.assertGreater(some, 15)

    def test_mistakes_beside_tells(self):
        draw = random.Random(216)
        for _ in range(60):
            size = draw.randint(1, draw.choice((50, 10 ** 9, GREAT)))
            divisor, last = draw.randint(1, draw.choice((9, 10 ** 9))), draw.randint(0, BOUND)
            factor = draw.choice((1, -1)) * (size // divisor + draw.randint(-1, 2))
            test = (factor, size, min(size, abs(factor) + draw.randint(0, 2)))
            found = first_mistake(test, divisor, last)
            self.assertIs(tells(test, divisor, last), found is None)
            if found is not None:
                self.assertIs(tells(test, divisor, found), False)
                self.assertNotEqual(passes(test, found), found % divisor == 0)
                self.assertTrue(found == 0 or tells(test, divisor, found - 1))

    def test_greater_than_the_bounds_of_other_points(self):
        test = (-GREAT, GREAT - 1, 2)
        self.assertEqual([passes(test, n) for n in (0, 1, -1, GREAT, GREAT - 2)], [True, False, True, False, True])
        self.assertEqual(how_many_pass(test, (0, BOUND)), 1)
        self.assertEqual(how_many_pass(test, (-BOUND, BOUND)), 2)


class Calls(unittest.TestCase):
    def test_remainders(self):
        line = (5, 2, 8)
        for stretch in ((-3, 9), (4, 4)):
            for function in (least_remainder, greatest_remainder):
                check_ways(self, function, line=line, stretch=stretch)
            for function in (first_below, last_below, first_from, last_from):
                for number in (-1, 0, 3, 7, 8, 9):
                    check_ways(self, function, line=line, stretch=stretch, number=number)

    def test_tests(self):
        test = (171, 256, 86)
        for thing in (test, (1, 2), None):
            check_ways(self, is_test, plain=("thing",), thing=thing)
        for n in (-4, 0, 6, 7):
            check_ways(self, passes, test=test, n=n)
        check_ways(self, how_many_pass, test=test, stretch=(-4, 300))
        for last in (0, 255, 256):
            check_ways(self, tells, test=test, divisor=3, last=last)
            check_ways(self, first_mistake, test=test, divisor=3, last=last)
            check_ways(self, limits_for, factor=171, size=256, divisor=3, last=last)
            check_ways(self, least_width, divisor=3, last=last)
        check_ways(self, usual_test, divisor=3, width=8)
