"""[10] and [1] (c): TOLD values."""

import random
import unittest
from fractions import Fraction
from itertools import combinations
from math import floor

from floorcorners.errors import NoLine
from floorcorners.lines import value
from floorcorners.told import (
    add_span, between, can_fit, how_many_having, is_barring, is_line_for, is_told, least_left_out, line_for,
    lines_with, three_that_bar,
)
from tests.plain import BOUND, drawn_line
from tests.ways import answer_of, check_ways

TOLD = ((0, 0), (2, 1), (4, 1))
CLASH = ((0, 0), (1, 1), (2, 1), (3, 3))


def plain_lines(told, d):
    """All LINEs with this d that have the TOLD values, two pairs or more, ascending."""
    (first, y), (last, top) = told[0], told[-1]
    least = d * (top - y - 1) // (last - first)
    found = []
    for a in range(least - 1, least + 2 * d + 3):
        low = d * y - a * first
        found += [(a, b, d) for b in range(low, low + d) if all((a * n + b) // d == number for n, number in told)]
    return found


def plain_fit(told):
    """Whether some LINE has the TOLD values: if any, one with d up to twice how far they reach."""
    if len(told) < 2:
        return True
    return any(plain_lines(told, d) for d in range(1, 2 * (told[-1][0] - told[0][0]) + 1))


def drawn_told(draw, most, pairs):
    """Values of a LINE, now and then with some of them off, or any values."""
    told = sorted(draw.sample(range(-most, most + 1), pairs))
    line = drawn_line(draw, 9)
    kind = draw.randint(0, 3)
    if kind == 0:
        return tuple([(n, draw.randint(-2, 2)) for n in told])
    off = (0, 0, 0, 0, 1, -1) if kind == 1 else (0,)
    return tuple([(n, value(line, n) + draw.choice(off)) for n in told])


def drawn_cases(seed, many, most=6, greatest=6):
    draw = random.Random(seed)
    for _ in range(many):
        yield draw, drawn_told(draw, most, draw.randint(2, greatest))


def long_cases(seed, many):
    """Up to forty values of a LINE, at numbers of up to forty figures, and this LINE."""
    draw = random.Random(seed)
    for _ in range(many):
        line = drawn_line(draw, draw.choice((30, 10 ** 9, 10 ** 20, BOUND)))
        most = draw.choice((60, 10 ** 6, 10 ** 20, BOUND))
        numbers = sorted({-most, most} | {draw.randint(-most, most) for _ in range(draw.choice((0, 1, 6, 38)))})
        yield draw, tuple([(n, value(line, n)) for n in numbers]), line


class Examples(unittest.TestCase):
    def test_lines_that_have_them(self):
        self.assertEqual(
            (can_fit(TOLD), line_for(TOLD), add_span(TOLD, 1, 4), add_span(TOLD, 1, 2), how_many_having(TOLD, 4),
             lines_with(TOLD, 4), is_line_for(TOLD, (1, 2, 4)), is_line_for(TOLD, (1, 0, 4))),
            (True, (1, 1, 3), (2, 3), None, 2, [(1, 2, 4), (1, 3, 4)], True, False))

    def test_what_bars(self):
        self.assertEqual(
            (can_fit(CLASH), three_that_bar(CLASH), three_that_bar(TOLD), is_barring(CLASH, ((0, 0), (2, 1), (3, 3))),
             is_barring(CLASH, ((0, 0), (1, 1), (2, 1))), least_left_out(CLASH), least_left_out(TOLD)),
            (False, ((0, 0), (2, 1), (3, 3)), None, True, False, ((2, 1),), ()))

    def test_few_pairs(self):
        self.assertEqual(
            (between((0, 0), (4, 1), 2), between((0, 0), (4, 2), 2), between((-3, 5), (4, -2), 0), line_for(()),
             line_for(((5, 7),)), add_span((), 3, 2), how_many_having(((5, 7),), 2)),
            ((0, 1), (1,), (2,), (0, 0, 1), (0, 7, 1), (None, None), None))

    def test_great_numbers(self):
        self.assertEqual(line_for(((0, 0), (10 ** 20, 1), (2 * 10 ** 20, 3))), (1, 0, 50000000000000000001))

    def test_no_line(self):
        with self.assertRaises(NoLine):
            line_for(CLASH)


class Things(unittest.TestCase):
    def test_is_told(self):
        many = tuple([(n, -n) for n in range(500)])
        for thing in ((), ((0, 0),), TOLD, CLASH, ((-5, 3), (-4, 3)), many, ((-10 ** 99, 10 ** 99), (10 ** 99, 0))):
            self.assertIs(is_told(thing), True, thing)
        deep = (0, 0)
        for _ in range(11):
            deep = (deep, 0)
        for thing in (
                None, True, False, 0, 7, "", "-", "0: 0", [], (0, 0), ((),), (((0, 0),),), ((0, 0, 0),), ((0,),),
                [(0, 0)], ([0, 0],), ((0, 0), [1, 1]), ((0, 0), None), ((0, 0), 1), ((0, None),), ((None, 0),),
                ((0, "0"),), (("0", 0),), ((True, 0),), ((0, False),), ((0, 0), (True, 1)), ((0, 0), (1, (1,))),
                ((0, 0), (0, 0)), ((0, 0), (0, 1)), ((0, 1), (0, 0)), ((2, 0), (1, 0)), ((0, 0), (2, 0), (1, 0)),
                ((0, 0), (1, 0), (1, 0)), (deep,), deep):
            self.assertIs(is_told(thing), False, thing)

    def test_is_line_for(self):
        for thing in ((1, 2, 4), (1, 1, 3), (2, 4, 8)):
            self.assertIs(is_line_for(TOLD, thing), True)
        for thing in (None, True, 1, "", "(1, 1, 3)", (), [], (1, 1), [1, 1, 3], (1, 1, 0), (1, 1, -3), (-1, -1, -3),
                      (True, True, 3), (1, True, 3), (1, 1, 3, 1), ((1, 1, 3),), (1, (1,), 3), (1, None, 3),
                      (1, "1", 3), (1, 0, 3), (1, 3, 3), (0, 0, 1), (10 ** 60, 1, 3)):
            self.assertIs(is_line_for(TOLD, thing), False, thing)
        self.assertIs(is_line_for((), (10 ** 60, 1, 3)), True)
        self.assertIs(is_line_for((), (10 ** 60, 1, 0)), False)
        self.assertIs(is_line_for(((10 ** 40, 1),), (1, 0, 10 ** 40)), True)
        self.assertIs(is_line_for(CLASH, (1, 0, 1)), False)

    def test_is_barring(self):
        bars = ((0, 0), (2, 1), (3, 3))
        deep = (0, 0)
        for _ in range(10):
            deep = (deep, 0)
        for thing in (
                None, True, 3, "", "bars", (), [], bars[:2], bars + ((4, 4),), CLASH, list(bars),
                ((0, 0), [2, 1], (3, 3)),
                ([0, 0], [2, 1], [3, 3]), ((0, 0), (2, 1), None), ((0, 0), (3, 3), (2, 1)), ((2, 1), (0, 0), (3, 3)),
                ((0, 0), (0, 0), (3, 3)), ((0, 0), (2, True), (3, 3)), ((False, 0), (2, 1), (3, 3)),
                ((0, 0), (2, 1), (3, 3, 3)), ((0, 0), (2, 1), (3, 4)), ((0, 0), (2, 1), (4, 9)),
                ((0, 0), (1, 5), (2, -5)), ((0, 0), (1, 1), (3, 3)), (deep, (2, 1), (3, 3)), (0, 2, 3),
                ((0,), (2,), (3,))):
            self.assertIs(is_barring(CLASH, thing), False, thing)
        self.assertIs(is_barring(CLASH, bars), True)
        self.assertIs(is_barring(CLASH, ((1, 1), (2, 1), (3, 3))), True)
        for told in ((), ((0, 0),), ((0, 0), (2, 1)), TOLD):
            self.assertIs(is_barring(told, bars), False)
            self.assertIs(is_barring(told, told), False)


class BesideAPlainSearch(unittest.TestCase):
    def test_whether_some_line_has_them(self):
        """[1] (c): exactly if some LINE has each three of them."""
        kinds = {True: 0, False: 0}
        for _, told in drawn_cases(141, 300, 5):
            fits = plain_fit(told)
            kinds[fits] += 1
            self.assertIs(can_fit(told), fits, told)
            bars = [three for three in combinations(told, 3) if not plain_fit(three)]
            self.assertIs(not bars, fits)
            self.assertEqual(three_that_bar(told), bars[0] if bars else None)
            for three in combinations(told, 3):
                self.assertIs(is_barring(told, three), three in bars)
            if not fits:
                self.assertEqual(answer_of(line_for, told), (NoLine, {}))
        self.assertGreater(min(kinds.values()), 50)

    def test_the_least_line(self):
        for _, told in drawn_cases(142, 300):
            if not can_fit(told):
                continue
            d = 1
            while not plain_lines(told, d):
                d += 1
            found = plain_lines(told, d)
            nearest = min([abs(a) for a, _, _ in found])
            first = [line for line in found if abs(line[0]) == nearest][0]
            self.assertEqual(line_for(told), first, told)

    def test_lines_with_a_d(self):
        for _, told in drawn_cases(143, 250, 8, 4):
            for d in (1, 2, 3, 5, 8, 12):
                found = plain_lines(told, d)
                self.assertEqual(lines_with(told, d), found, (told, d))
                self.assertEqual(how_many_having(told, d), len(found))
                for a in {a + more for a, _, _ in found for more in (-1, 0, 1)} | {0}:
                    those = [b for other, b, _ in found if other == a]
                    self.assertEqual(add_span(told, a, d), (those[0], those[-1]) if those else None)

    def test_two_pairs_beside_one_another(self):
        """The most LINEs there are: d * d of them have two values at neighbours."""
        for d in (1, 2, 12, 1000):
            self.assertEqual(how_many_having(((3, -7), (4, 5)), d), d * d)
        self.assertEqual(len(lines_with(((3, -7), (4, 5)), 12)), 144)

    def test_between(self):
        for _, told in drawn_cases(144, 120, 5, 2):
            one, other = told
            lines = [line for d in range(1, 2 * (other[0] - one[0]) + 1) for line in plain_lines(told, d)]
            for n in range(one[0] + 1, other[0]):
                found = {value(line, n) for line in lines}
                self.assertEqual(between(one, other, n), tuple(sorted(found)), (told, n))
                self.assertEqual(between(other, one, n), tuple(sorted(found)))
                self.assertTrue(len(found) == 1 or sorted(found)[0] + 1 == sorted(found)[1])

    def test_what_is_left_out(self):
        many = {}
        for _, told in drawn_cases(145, 150, 4, 7):
            for size in range(len(told)):
                found = [left for left in combinations(told, size)
                         if plain_fit(tuple([pair for pair in told if pair not in left]))]
                if found:
                    break
            many[size] = many.get(size, 0) + 1
            self.assertEqual(least_left_out(told), found[0], told)
        self.assertTrue({0, 1, 2, 3} <= set(many))


class Edges(unittest.TestCase):
    def test_no_pair_and_one_pair(self):
        for told in ((), ((5, 7),), ((-10 ** 40, -3),)):
            self.assertIs(can_fit(told), True)
            self.assertEqual(line_for(told), (0, told[0][1] if told else 0, 1))
            for d in (1, 12, 1000):
                self.assertIsNone(how_many_having(told, d))
            self.assertIsNone(three_that_bar(told))
            self.assertEqual(least_left_out(told), ())
        self.assertEqual(add_span((), -9, 1000), (None, None))
        self.assertEqual(add_span(((5, 7),), 3, 2), (-1, 0))
        self.assertEqual(add_span(((10 ** 40, 7),), 10 ** 40, 3), (21 - 10 ** 80, 23 - 10 ** 80))

    def test_two_pairs_always_fit(self):
        draw = random.Random(146)
        for _ in range(200):
            most = draw.choice((2, 50, BOUND))
            told = tuple([(n, draw.randint(-most, most)) for n in sorted(draw.sample(range(-9, 10), 2))])
            self.assertIs(can_fit(told), True)
            self.assertIs(is_line_for(told, line_for(told)), True)

    def test_bent_ones(self):
        for told in (((0, 0), (1, 2), (2, 0)), ((0, 0), (1, 0), (2, 2), (3, 2)), ((-9, 0), (0, 9), (9, 0)),
                     ((0, 0), (10 ** 20, 0), (2 * 10 ** 20, 2)), ((0, 0), (10 ** 40 - 1, 0), (10 ** 40, 2))):
            self.assertIs(can_fit(told), False)
            self.assertEqual(answer_of(line_for, told), (NoLine, {}))
            self.assertEqual((how_many_having(told, 1), how_many_having(told, 1000), lines_with(told, 7)), (0, 0, []))
            self.assertEqual(len(three_that_bar(told)), 3)
            self.assertIs(is_barring(told, three_that_bar(told)), True)
            self.assertEqual(len(least_left_out(told)), 1)

    def test_just_bent_and_just_not(self):
        """The value amid may be less than 1 off, either way."""
        great = 10 ** 20
        self.assertIs(can_fit(((0, 0), (great - 1, 1), (great, 1))), True)
        self.assertIs(can_fit(((0, 0), (1, 1), (great, 0))), False)
        self.assertIs(can_fit(((0, 0), (1, 1), (great, 1))), True)
        self.assertIs(can_fit(((0, 0), (great, -1), (2 * great, 0))), False)
        self.assertIs(can_fit(((0, 0), (great, -1), (2 * great, -1))), True)

    def test_a_nearest_to_0(self):
        """d is 1: of the slopes that are left the one nearest to 0 is taken, then the least b."""
        self.assertEqual(line_for(((0, 3), (1, 5))), (2, 3, 1))
        self.assertEqual(line_for(((0, -3), (1, -5))), (-2, -3, 1))
        self.assertEqual(line_for(((0, 0), (5, 0))), (0, 0, 1))
        self.assertEqual(line_for(((0, 0), (2, 1))), (1, 0, 2))
        self.assertEqual(line_for(((0, 0), (2, -1))), (-1, 0, 2))
        self.assertEqual(line_for(((0, 0), (1, 0), (9, 1))), (1, 0, 5))
        self.assertEqual(line_for(((0, -1), (1, -1), (9, 0))), (1, -5, 5))


class GreatNumbers(unittest.TestCase):
    def test_lines_of_told_values(self):
        for draw, told, line in long_cases(147, 120):
            self.assertIs(can_fit(told), True)
            self.assertIs(is_line_for(told, line), True)
            a, b, d = line_for(told)
            self.assertIs(is_line_for(told, (a, b, d)), True)
            self.assertLessEqual(d, line[2])
            self.assertEqual(add_span(told, a, d)[0], b)
            self.assertIsNone(three_that_bar(told))
            if d > 1:
                self.check_least(told, a, d)
            if len(told) > 2:
                self.check_bent(draw, told)

    def check_least(self, told, a, d):
        """The FRACTIONs next to a / d with a less bottom are no slopes of LINEs that have them."""
        left = pow(a, -1, d)
        for top, bottom in (((a * left - 1) // d, left), ((a * (d - left) + 1) // d, d - left)):
            self.assertIsNone(add_span(told, top, bottom))

    def check_bent(self, draw, told):
        """With one value amid off by 2, no LINE has the others beside it, or this one."""
        at = draw.randint(1, len(told) - 2)
        bent = told[:at] + ((told[at][0], told[at][1] + draw.choice((-2, 2))),) + told[at + 1:]
        self.assertIs(can_fit(bent), False)
        self.assertEqual(answer_of(line_for, bent), (NoLine, {}))
        three = three_that_bar(bent)
        self.assertIs(is_barring(bent, three), True)
        self.assertIn(bent[at], three)
        self.assertIs(is_barring(told, three), False)
        if len(bent) <= 8:
            self.assertEqual(len(least_left_out(bent)), 1)

    def test_forty_pairs_of_which_many_bar(self):
        """Each third value is 7 above the others: the first three bar already, and so do the last but one."""
        told = tuple([(n * 10 ** 38, 7 if n % 3 == 1 else 0) for n in range(40)])
        self.assertEqual(three_that_bar(told), told[:3])
        self.assertIs(is_barring(told, told[-4:-1]), True)
        self.assertIs(is_barring(told, (told[0], told[2], told[3])), False)

    def test_counts_with_great_numbers(self):
        """At 0 and at 10 ** 40 the value 0: a is 0 for each d up to 1000 and more, and b any of d."""
        for d in (1, 12, 1000):
            self.assertEqual(how_many_having(((0, 0), (10 ** 40, 0)), d), d)
        self.assertEqual(lines_with(((0, 0), (10 ** 40, 0)), 3), [(0, 0, 3), (0, 1, 3), (0, 2, 3)])
        self.assertEqual(how_many_having(((0, 0), (10 ** 40, 1)), 1000), 0)

    def test_between_great_ones(self):
        one, other = (-10 ** 40, 10 ** 40), (10 ** 40, -10 ** 40)
        self.assertEqual(between(one, other, 12345), (-12345,))
        self.assertEqual(between((0, 0), (10 ** 40, 1), 10 ** 39), (0, 1))
        self.assertEqual(between((0, 0), (10 ** 40, -1), 10 ** 39), (-1, 0))

    def test_between_at_the_ends(self):
        self.assertEqual((between((0, 3), (7, 5), 0), between((0, 3), (7, 5), 7), between((4, 9), (4, 9), 4)),
                         ((3,), (5,), (9,)))

    def test_no_less_d_does(self):
        for _, told, _ in long_cases(148, 40):
            pairs = list(combinations(told, 2))
            low = max([Fraction(y - x - 1, n - m) for (m, x), (n, y) in pairs])
            high = min([Fraction(y - x + 1, n - m) for (m, x), (n, y) in pairs])
            a, _, d = line_for(told)
            self.assertTrue(low < Fraction(a, d) < high)
            for bottom in range(1, min(d, 60)):
                self.assertFalse(floor(low * bottom) + 1 < high * bottom)


class Calls(unittest.TestCase):
    def test_lists_names_and_arguments_that_stay(self):
        for told in (TOLD, CLASH, (), ((5, 7),), ((0, 0), (2, 1))):
            for function in (line_for, can_fit, three_that_bar, least_left_out):
                check_ways(self, function, told=told)
            check_ways(self, add_span, told=told, a=1, d=4)
            check_ways(self, how_many_having, told=told, d=4)
            if len(told) > 1:
                check_ways(self, lines_with, told=told, d=4)
            for thing in ((1, 2, 4), [1, 2, 4], None):
                check_ways(self, is_line_for, plain=("thing",), told=told, thing=thing)
            for thing in (((0, 0), (2, 1), (3, 3)), [[0, 0], [2, 1], [3, 3]], ((0, 0), (2, 1), (4, 1))):
                check_ways(self, is_barring, plain=("thing",), told=told, thing=thing)
            check_ways(self, is_told, plain=("thing",), thing=told)
        for n in (1, 2, 3):
            check_ways(self, between, one=(0, 0), other=(4, 1), n=n)
