"""[4]: LINEs."""

import random
import unittest
from fractions import Fraction
from math import ceil, floor

from floorcorners.lines import (
    divided, growth, is_line, leaned, mirrored, moved, nearest, normal, raised, remainder,
    rounded_up, same_everywhere, strided, turned, value, values,
)
from tests.plain import BOUND, drawn_line


def drawn_lines(seed, many):
    """LINEs of all sizes: small ones, ones of forty figures, ones that are in no lowest terms."""
    draw = random.Random(seed)
    return [(draw, drawn_line(draw, draw.choice((1, 3, 12, 1000, BOUND)))) for _ in range(many)]


def drawn_number(draw):
    most = draw.choice((2, 15, 10 ** 6, BOUND))
    return draw.randint(-most, most)


class Examples(unittest.TestCase):
    def setUp(self):
        self.third = (1, 0, 3)

    def test_value_remainder_values(self):
        third = self.third
        self.assertEqual(
            (value(third, 8), value(third, -1), remainder(third, 8), remainder(third, -1),
             values(third, (-2, 4)), value((153, 2, 5), 11)),
            (2, -1, 2, 2, (-1, -1, 0, 0, 0, 1, 1), 337))

    def test_normal_and_same_everywhere(self):
        third = self.third
        self.assertEqual(
            (normal((4, 3, 6)), normal((6, -5, 3)), normal((0, 7, 2)),
             same_everywhere((2, 1, 6), third), same_everywhere((2, 2, 6), third)),
            ((2, 1, 3), (2, -2, 1), (0, 3, 1), True, False))

    def test_lines_made_of_a_line(self):
        third = self.third
        self.assertEqual(
            (value(moved(third, 5), 1), value(raised(third, -4), 9), value(leaned(third, 2), 4),
             value(mirrored(third), 4), value(turned(third), 4), value(strided(third, -2), 4)),
            (2, -1, 9, -2, -1, -3))

    def test_divided_rounded_growth(self):
        third = self.third
        self.assertEqual(
            (value(divided(third, 2), 17), value(divided(third, 2, add=1), 17), value(rounded_up(1, 0, 3), 4),
             value(nearest(1, 0, 2), 3), value(nearest(1, 0, 2), -3), growth((7, 1, 3)), growth((-6, 1, 3))),
            (2, 3, 2, 2, -1, (2, 3), (-2, -2)))

    def test_is_line(self):
        self.assertEqual(
            (is_line(self.third), is_line((1, 0, 0)), is_line([1, 0, 3]), is_line((1, 0)), is_line((True, 0, 3)),
             value((1, 10 ** 40, 10 ** 40), -1)),
            (True, False, False, False, False, 0))


class IsLine(unittest.TestCase):
    def test_lines(self):
        for thing in ((0, 0, 1), (-5, -7, 2), (4, 6, 2), (BOUND, -BOUND, BOUND), (10 ** 999, 0, 10 ** 999)):
            self.assertIs(is_line(thing), True)

    def test_other_things(self):
        deep = (1, 0, 3)
        for _ in range(11):
            deep = (deep, 0, 3)
        things = [
            None, True, False, 0, 1, 3, -1, 10 ** 50, "", "abc", "(1, 0, 3)", (), [], (1,), (1, 0), (1, 0, 3, 1),
            (1, 0, 3, None), [1, 0, 3], [(1, 0, 3)], ((1, 0, 3),), ((1, 0, 3), 0, 3), ((), (), ()),
            (1, 0, 0), (1, 0, -1), (1, 0, -BOUND), (1, 0, -10 ** 99),
            (True, 0, 3), (1, True, 3), (1, 0, True), (False, 0, 3), (1, False, 3), (1, 0, False),
            (None, 0, 3), (1, None, 3), (1, 0, None), ("1", 0, 3), (1, "0", 3), (1, 0, "3"), ("", "", ""),
            ([1], 0, 3), (1, [0], 3), (1, 0, [3]), (1, 0, (3,)), ((1,), 0, 3), (1, (0, 3)), ((1, 0), 3), deep,
        ]
        for thing in things:
            self.assertIs(is_line(thing), False, thing)
            self.assertIs(is_line(thing=thing), False, thing)


class Values(unittest.TestCase):
    def test_value_and_remainder_round_down_at_drawn_numbers(self):
        for draw, line in drawn_lines(1, 400):
            n = drawn_number(draw)
            exact = Fraction(line[0] * n + line[1], line[2])
            self.assertEqual(value(line, n), floor(exact))
            self.assertEqual(remainder(line, n), (exact - floor(exact)) * line[2])
            self.assertTrue(0 <= remainder(line, n) < line[2])

    def test_values_of_stretches(self):
        for draw, line in drawn_lines(2, 200):
            first = drawn_number(draw)
            many = draw.choice((1, 2, 30))
            found = values(line, (first, first + many - 1))
            self.assertIsInstance(found, tuple)
            self.assertEqual(found, tuple(value(line, first + k) for k in range(many)))

    def test_values_of_a_thousand_numbers(self):
        found = values((BOUND - 1, -3, BOUND), (BOUND - 999, BOUND))
        self.assertEqual((len(found), found[0], found[-1]), (1000, BOUND - 1000, BOUND - 2))

    def test_growth_beside_all_differences(self):
        for a in range(-13, 14):
            for d in range(1, 7):
                found = values((a, 5, d), (-d, d))
                differences = [right - left for left, right in zip(found, found[1:])]
                self.assertEqual(growth((a, 5, d)), (min(differences), max(differences)))

    def test_growth_of_great_lines(self):
        self.assertEqual(growth((-1, 0, BOUND)), (-1, 0))
        self.assertEqual(growth((3 * BOUND, 1, BOUND)), (3, 3))


class Normal(unittest.TestCase):
    def test_it_has_the_same_values(self):
        for draw, line in drawn_lines(3, 300):
            made = normal(line)
            self.assertTrue(is_line(made))
            self.assertTrue(same_everywhere(line, made))
            for n in [0, 1, -1] + [drawn_number(draw) for _ in range(6)]:
                self.assertEqual(value(made, n), value(line, n))

    def test_it_has_the_least_d_beside_all_lines(self):
        stretch = (-8, 8)
        least = {}
        for d in range(1, 9):
            for a in range(-d, 2 * d + 1):
                for b in range(-d, 2 * d + 1):
                    row = values((a, b, d), stretch)
                    least.setdefault(row, (a, b, d))
                    self.assertEqual(normal((a, b, d)), least[row])

    def test_same_everywhere_beside_the_values(self):
        lines = [(a, b, d) for d in (1, 2, 3, 6) for a in range(-4, 5) for b in range(-4, 5)]
        rows = {line: values(line, (-6, 6)) for line in lines}
        for one in lines[::3]:
            for other in lines:
                self.assertIs(same_everywhere(one, other), rows[one] == rows[other])

    def test_great_lines(self):
        self.assertEqual(normal((BOUND, BOUND - 1, BOUND)), (1, 0, 1))
        self.assertEqual(normal((6 * 10 ** 39, -1, BOUND)), (3, -1, 5))
        self.assertIs(same_everywhere((2, 1, 2 * BOUND), (1, 0, BOUND)), True)
        self.assertIs(same_everywhere((1, 1, BOUND), (1, 0, BOUND)), False)


class LinesMadeOfLines(unittest.TestCase):
    def each(self, seed, check):
        for draw, line in drawn_lines(seed, 200):
            number = drawn_number(draw)
            for n in [0, 1, -1] + [drawn_number(draw) for _ in range(4)]:
                check(line, number, n)

    def expect(self, made, n, worth):
        self.assertTrue(is_line(made))
        self.assertEqual(value(made, n), worth)

    def test_moved(self):
        self.each(11, lambda line, number, n: self.expect(moved(line, number), n, value(line, n + number)))

    def test_raised(self):
        self.each(12, lambda line, number, n: self.expect(raised(line, number), n, value(line, n) + number))

    def test_leaned(self):
        self.each(13, lambda line, number, n: self.expect(leaned(line, number), n, value(line, n) + number * n))

    def test_mirrored(self):
        self.each(14, lambda line, number, n: self.expect(mirrored(line), n, value(line, -n)))

    def test_turned(self):
        self.each(15, lambda line, number, n: self.expect(turned(line), n, -value(line, n)))

    def test_strided(self):
        self.each(16, lambda line, number, n: self.expect(strided(line, number), n, value(line, number * n)))

    def test_divided(self):
        def check(line, number, n):
            by = abs(number) + 1
            self.expect(divided(line, by), n, value(line, n) // by)
            self.expect(divided(line, by, number // 3), n, (value(line, n) + number // 3) // by)
            self.expect(divided(line, by, add=-number), n, (value(line, n) - number) // by)
        self.each(17, check)

    def test_rounded_up(self):
        def check(line, number, n):
            a, b, d = line
            self.expect(rounded_up(a, b, d), n, ceil(Fraction(a * n + b, d)))
        self.each(18, check)

    def test_nearest(self):
        def check(line, number, n):
            a, b, d = line
            self.expect(nearest(a, b, d), n, floor(Fraction(a * n + b, d) + Fraction(1, 2)))
        self.each(19, check)

    def test_nearest_takes_halves_up(self):
        self.assertEqual(values(nearest(1, 0, 2), (-4, 4)), (-2, -1, -1, 0, 0, 1, 1, 2, 2))
        self.assertEqual(values(nearest(-1, 0, 4), (-2, 2)), (1, 0, 0, 0, 0))


class Calls(unittest.TestCase):
    """Lists for tuples, arguments by their names, arguments that stay, the same answer again."""

    def check(self, function, given):
        listed = {name: list(thing) if isinstance(thing, tuple) else thing for name, thing in given.items()}
        kept = {name: list(thing) if isinstance(thing, list) else thing for name, thing in listed.items()}
        answer = function(*given.values())
        for again in (function(**given), function(**listed), function(*listed.values())):
            self.assertEqual(again, answer)
            self.assertIs(type(again), type(answer))
        self.assertEqual(listed, kept)

    def test_all_functions(self):
        line = (-7, 5, 12)
        self.check(value, {"line": line, "n": -9})
        self.check(remainder, {"line": line, "n": -9})
        self.check(values, {"line": line, "stretch": (-3, 8)})
        self.check(normal, {"line": (4, 3, 6)})
        self.check(same_everywhere, {"one": (2, 1, 6), "other": (1, 0, 3)})
        self.check(moved, {"line": line, "number": 4})
        self.check(raised, {"line": line, "number": -4})
        self.check(leaned, {"line": line, "number": 4})
        self.check(mirrored, {"line": line})
        self.check(turned, {"line": line})
        self.check(strided, {"line": line, "number": -4})
        self.check(divided, {"line": line, "number": 4})
        self.check(divided, {"line": line, "number": 4, "add": -3})
        self.check(rounded_up, {"a": -7, "b": 5, "d": 12})
        self.check(nearest, {"a": -7, "b": 5, "d": 12})
        self.check(growth, {"line": line})
