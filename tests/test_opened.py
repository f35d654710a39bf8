"""[11]: what TOLD values leave open."""

import unittest
from fractions import Fraction
from itertools import combinations

from floorcorners.errors import NoLine
from floorcorners.lines import value
from floorcorners.opened import (
    all_sure, best_look, can_be, first_open, last_open, line_with, slope_range, sure_in, sure_value, value_range,
)
from floorcorners.told import can_fit, is_line_for
from tests.plain import BOUND
from tests.test_told import CLASH, TOLD, drawn_cases, long_cases, plain_lines
from tests.ways import answer_of, check_ways

WITH_TOLD = (
    (slope_range, ()), (value_range, (9,)), (can_be, (9, 3)), (line_with, (9, 3)), (sure_value, (9,)),
    (all_sure, ((0, 9),)), (first_open, ((0, 9),)), (last_open, ((0, 9),)), (sure_in, ((0, 9),)),
    (best_look, ((0, 9),)))


def fitting(seed, many, most=5, greatest=5):
    return [(draw, told) for draw, told in drawn_cases(seed, many, most, greatest) if can_fit(told)]


def plain_values(told, n):
    """All values at n of the LINEs that fit: some LINE has each, if any does, with d up to twice the reach."""
    far = max(told[-1][0], n) - min(told[0][0], n)
    return sorted({value(line, n) for d in range(1, 2 * far + 1) for line in plain_lines(told, d)})


def plain_range(told, n):
    """The least and the greatest value at n, from all pairs of TOLD values: what each slope between lets there."""
    pairs = [(left, right) for left in told for right in told if left[0] != right[0]]
    known = [number for m, number in told if m == n]
    if known:
        return (known[0], known[0])
    # From 1 above one value by another one, further on, the LINEs that fit are below; and so on.
    ends_above, ends_below = [], []
    for (m, x), (k, y) in pairs:
        if abs(n - m) > abs(n - k) and (n - m) * (n - k) > 0:
            ends_above.append(y + 1 + Fraction(y + 1 - x, k - m) * (n - k))
            ends_below.append(y + Fraction(y - x - 1, k - m) * (n - k))
        elif (n - m) * (n - k) < 0:
            ends_above.append(y + 1 + Fraction(y - x, k - m) * (n - k))
            ends_below.append(y + Fraction(y - x, k - m) * (n - k))
    return (max(ends_below).__floor__(), min(ends_above).__ceil__() - 1)


class Examples(unittest.TestCase):
    def test_ranges(self):
        self.assertEqual(
            (slope_range(TOLD), [value_range(TOLD, n) for n in range(7)], can_be(TOLD, 6, 2), can_be(TOLD, 6, 3)),
            (((0, 1), (1, 2)), [(0, 0), (0, 1), (1, 1), (1, 1), (1, 1), (1, 2), (1, 2)], True, False))

    def test_what_is_sure(self):
        self.assertEqual(
            (sure_value(TOLD, 3), sure_value(TOLD, 5), sure_in(TOLD, (0, 6)), all_sure(TOLD, (2, 4)),
             first_open(TOLD, (2, 10 ** 40)), last_open(TOLD, (-9, 4)), first_open(TOLD, (2, 4)),
             best_look(TOLD, (0, 6))),
            (1, None, (0, 2, 3, 4), True, 5, 1, None, 1))

    def test_few_pairs(self):
        self.assertEqual(
            (slope_range(((3, 5),)), value_range(((3, 5),), 3), value_range(((3, 5),), 4), value_range((), 0),
             can_be((), 9, -7), best_look(((3, 5),), (3, 9)), line_with(TOLD, 6, 3)),
            ((None, None), (5, 5), (None, None), (None, None), True, 4, None))

    def test_no_line(self):
        with self.assertRaises(NoLine):
            value_range(((0, 0), (1, 1), (2, 1), (3, 3)), 9)


class BesideAPlainSearch(unittest.TestCase):
    def test_the_values_of_all_lines(self):
        for _, told in fitting(151, 60, 4, 4):
            for n in range(told[0][0] - 4, told[-1][0] + 5):
                found = plain_values(told, n)
                self.assertEqual(found, list(range(found[0], found[-1] + 1)))
                self.assertEqual(value_range(told, n), (found[0], found[-1]), (told, n))
                self.assertEqual(plain_range(told, n), (found[0], found[-1]), (told, n))

    def test_values_and_lines_with_them(self):
        for draw, told in fitting(152, 150, 12, 8):
            for n in range(told[0][0] - 5, told[-1][0] + 6):
                least, greatest = plain_range(told, n)
                self.assertEqual(value_range(told, n), (least, greatest), (told, n))
                self.assertEqual(sure_value(told, n), least if least == greatest else None)
                for number in (least - 1, least, greatest, greatest + 1, draw.randint(least, greatest), BOUND, -BOUND):
                    self.assertIs(can_be(told, n, number), least <= number <= greatest)
                    line = line_with(told, n, number)
                    if least <= number <= greatest:
                        self.assertIs(is_line_for(told, line), True)
                        self.assertEqual(value(line, n), number)
                    else:
                        self.assertIsNone(line)

    def test_slopes(self):
        for _, told in fitting(153, 300, 12, 8):
            pairs = list(combinations(told, 2))
            low = max([Fraction(y - x - 1, n - m) for (m, x), (n, y) in pairs])
            high = min([Fraction(y - x + 1, n - m) for (m, x), (n, y) in pairs])
            self.assertEqual(slope_range(told), ((low.numerator, low.denominator), (high.numerator, high.denominator)))
            for d in range(1, 9):
                for a, _, _ in plain_lines(told, d):
                    self.assertTrue(low < Fraction(a, d) < high)

    def test_what_is_sure(self):
        for draw, told in fitting(154, 300, 12, 8):
            for _ in range(4):
                first = draw.randint(-18, 18)
                stretch = (first, draw.randint(first, 19))
                ranges = [(n, *plain_range(told, n)) for n in range(stretch[0], stretch[1] + 1)]
                sure = [n for n, least, greatest in ranges if least == greatest]
                still_open = [n for n, least, greatest in ranges if least != greatest]
                self.assertEqual(sure_in(told, stretch), tuple(sure))
                self.assertIs(all_sure(told, stretch), not still_open)
                self.assertEqual(first_open(told, stretch), min(still_open, default=None))
                self.assertEqual(last_open(told, stretch), max(still_open, default=None))
                most = max([greatest - least for _, least, greatest in ranges])
                self.assertEqual(best_look(told, stretch), min([n for n, low, high in ranges if high - low == most]))


class Edges(unittest.TestCase):
    def test_no_line_ahead_of_all_else(self):
        for told in (CLASH, ((0, 0), (1, 2), (2, 0)), ((0, 0), (9 * 10 ** 39, 0), (10 ** 40, 2))):
            for function, more in WITH_TOLD:
                self.assertEqual(answer_of(function, told, *more), (NoLine, {}), function)
            for n, number in ((0, 0), (0, 1), (9, 10 ** 40)):
                self.assertEqual(answer_of(can_be, told, n, number), (NoLine, {}))
                self.assertEqual(answer_of(line_with, told, n, number), (NoLine, {}))
                self.assertEqual(answer_of(value_range, told, n), (NoLine, {}))
                self.assertEqual(answer_of(sure_value, told, n), (NoLine, {}))

    def test_no_told_value(self):
        for n in (0, -7, BOUND):
            self.assertEqual((slope_range(()), value_range((), n)), ((None, None), (None, None)))
            self.assertIs(can_be((), n, -BOUND), True)
            self.assertEqual(value(line_with((), n, 17), n), 17)
            self.assertIsNone(sure_value((), n))
            for stretch in ((n, n), (n - 50, n + 50)):
                self.assertIs(all_sure((), stretch), False)
                self.assertEqual((first_open((), stretch), last_open((), stretch)), stretch)
                self.assertEqual((sure_in((), stretch), best_look((), stretch)), ((), stretch[0]))

    def test_one_told_value(self):
        told = ((3, 5),)
        self.assertEqual((value_range(told, 3), value_range(told, BOUND)), ((5, 5), (None, None)))
        self.assertEqual((can_be(told, 3, 5), can_be(told, 3, 6), can_be(told, 2, 6)), (True, False, True))
        self.assertEqual((sure_value(told, 3), sure_value(told, 2)), (5, None))
        self.assertEqual((line_with(told, 3, 6), value(line_with(told, 3, 5), 3)), (None, 5))
        line = line_with(told, 4, -900)
        self.assertEqual((value(line, 3), value(line, 4)), (5, -900))
        for stretch, first, last, look in (
                ((3, 3), None, None, 3), ((3, 4), 4, 4, 4), ((2, 3), 2, 2, 2), ((1, 9), 1, 9, 1), ((3, 9), 4, 9, 4),
                ((-9, 3), -9, 2, -9), ((4, 9), 4, 9, 4), ((-9, 2), -9, 2, -9), ((2, 4), 2, 4, 2)):
            self.assertEqual((first_open(told, stretch), last_open(told, stretch)), (first, last), stretch)
            self.assertIs(all_sure(told, stretch), first is None)
            self.assertEqual(sure_in(told, stretch), (3,) if stretch[0] <= 3 <= stretch[1] else ())
            self.assertEqual(best_look(told, stretch), look)
        self.assertEqual((first_open(told, (3, BOUND)), last_open(told, (-BOUND, 3))), (4, 2))

    def test_two_told_values_far_apart(self):
        """On (0, 10 ** 40) two values at the ends leave one at 0 and at the end alone, and as far as whole ways go."""
        told = ((0, 0), (BOUND, 1))
        self.assertEqual((first_open(told, (0, BOUND)), last_open(told, (0, BOUND))), (1, BOUND - 1))
        self.assertEqual(value_range(told, BOUND // 2), (0, 1))
        told = ((0, 0), (BOUND, BOUND))
        self.assertEqual((first_open(told, (0, BOUND)), last_open(told, (0, BOUND))), (None, None))
        self.assertEqual((first_open(told, (0, 2 * BOUND)), last_open(told, (-BOUND, BOUND))), (BOUND + 1, -1))
        self.assertEqual([sure_value(told, n) for n in (12345, BOUND + 1, -1)], [12345, None, None])
        self.assertEqual(value_range(told, 2 * BOUND), (2 * BOUND - 1, 2 * BOUND + 1))
        self.assertIs(all_sure(told, (0, BOUND)), True)
        self.assertIs(all_sure(told, (-1, BOUND)), False)

    def test_a_stretch_of_one_number(self):
        for n in range(-3, 8):
            least, greatest = value_range(TOLD, n)
            sure = least == greatest
            self.assertEqual(sure_in(TOLD, (n, n)), (n,) if sure else ())
            self.assertEqual((first_open(TOLD, (n, n)), last_open(TOLD, (n, n))), (None, None) if sure else (n, n))
            self.assertIs(all_sure(TOLD, (n, n)), sure)
            self.assertEqual(best_look(TOLD, (n, n)), n)


class GreatNumbers(unittest.TestCase):
    def test_ranges(self):
        for draw, told, line in long_cases(155, 40):
            numbers = [draw.choice(told)[0] + draw.randint(-3, 3), draw.randint(-BOUND, BOUND),
                       (told[0][0] + told[-1][0]) // 2, told[-1][0] + 1, told[0][0] - 10 ** 5]
            for n in numbers:
                least, greatest = plain_range(told, n)
                self.assertEqual(value_range(told, n), (least, greatest))
                self.assertTrue(least <= value(line, n) <= greatest)
                for number in (least, greatest):
                    found = line_with(told, n, number)
                    self.assertEqual((is_line_for(told, found), value(found, n)), (True, number))
                for number in (least - 1, greatest + 1):
                    self.assertIsNone(line_with(told, n, number))

    def test_first_and_last_open_ones(self):
        """The first open one is open, and between it and the beginning no number is, however looked for."""
        some = 0
        for draw, told, _ in long_cases(156, 60):
            stretch = (draw.choice((told[0][0], -BOUND, told[len(told) // 2][0])), BOUND)
            first, last = first_open(told, stretch), last_open(told, stretch)
            self.assertIs(all_sure(told, stretch), first is None)
            if first is None:
                self.assertIsNone(last)
                continue
            for n in (first, last):
                least, greatest = plain_range(told, n)
                self.assertLess(least, greatest)
            if first > stretch[0]:
                some += 1
                self.assertIs(all_sure(told, (stretch[0], first - 1)), True)
                sure = [first - 1, stretch[0]] + [draw.randint(stretch[0], first - 1) for _ in range(10)]
                for n in sure:
                    least, greatest = plain_range(told, n)
                    self.assertEqual(least, greatest)
        self.assertGreater(some, 5)

    def test_two_hundred_numbers(self):
        for draw, told, _ in long_cases(157, 4):
            n = draw.choice(told)[0]
            stretch = (n - 100, n + 99)
            ranges = [(m, *plain_range(told, m)) for m in range(stretch[0], stretch[1] + 1)]
            self.assertEqual(sure_in(told, stretch), tuple([m for m, least, greatest in ranges if least == greatest]))
            most = max([greatest - least for _, least, greatest in ranges])
            self.assertEqual(best_look(told, stretch), min([m for m, low, high in ranges if high - low == most]))


class Calls(unittest.TestCase):
    def test_lists_names_and_arguments_that_stay(self):
        for told in (TOLD, CLASH, (), ((3, 5),)):
            check_ways(self, slope_range, told=told)
            for n in (1, 3, 9):
                for function in (value_range, sure_value):
                    check_ways(self, function, told=told, n=n)
                for number in (1, 5):
                    for function in (can_be, line_with):
                        check_ways(self, function, told=told, n=n, number=number)
            for function in (all_sure, first_open, last_open, sure_in, best_look):
                for stretch in ((0, 6), (2, 4), (3, 3)):
                    check_ways(self, function, told=told, stretch=stretch)
