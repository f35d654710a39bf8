"""[15] and [1] (f): ROWs of values cut into straight parts."""

import random
import unittest
from fractions import Fraction
from itertools import product

from floorcorners.lines import value
from floorcorners.rows import (
    clash_in, fewest_parts, how_many_on, is_clash_in, is_line_of, is_row, is_straight, line_of, longest_parts,
    next_values, slopes_of, straight_to,
)
from tests.plain import BOUND, drawn_line
from tests.ways import check_ways

ROW = (0, 0, 1, 2, 2, 2)


def plain_lines(row):
    """LINEs that have these values, two or more, with d up to twice their number: by going through all a and b."""
    found = []
    for d in range(1, 2 * len(row) + 1):
        for a in range(d * (row[1] - row[0] - 1), d * (row[1] - row[0] + 1) + 1):
            found += [(a, b, d) for b in range(d * row[0], d * row[0] + d)
                      if all((a * n + b) // d == y for n, y in enumerate(row))]
    return found


def plain_straight(row):
    return len(row) < 2 or bool(plain_lines(row))


def growing_alike(row):
    """Whether of each two parts of the same length the last value less the first one differs by at most 1."""
    parts = [(first, last) for last in range(len(row)) for first in range(last)]
    return not any(is_plain_clash(row, (one, other)) for one in parts for other in parts)


def is_plain_clash(row, pair):
    (m, n), (k, j) = pair
    return n - m == j - k and row[n] - row[m] - (row[j] - row[k]) >= 2


def plain_parts(row):
    """All straight parts."""
    return [(first, last) for first in range(len(row)) for last in range(first, len(row))
            if growing_alike(row[first:last + 1])]


def drawn_row(draw, most):
    """The values of a LINE; or of two LINEs, one behind the other; or with some of them off; or any."""
    many = draw.choice((draw.randint(0, 2), draw.randint(2, most), draw.randint(2, most)))
    line = drawn_line(draw, 12)
    row = [value(line, n) for n in range(many)]
    kind = draw.randint(0, 4)
    if kind == 1:
        line = drawn_line(draw, 6)
        row = row[:many // 2] + [value(line, n) for n in range(many - many // 2)]
    if kind == 2:
        row = [y + draw.choice((0, 0, 0, 0, 0, 0, 1, -1)) for y in row]
    if kind == 3:
        row = [draw.randint(-2, 2) for _ in row]
    return tuple(row)


def drawn_rows(seed, many, most=14):
    draw = random.Random(seed)
    for _ in range(many):
        yield draw, drawn_row(draw, most)


def long_rows(seed, many):
    """Straight ROWs of up to sixty values."""
    draw = random.Random(seed)
    for _ in range(many):
        line = drawn_line(draw, draw.choice((9, 80, 10 ** 20, BOUND)))
        yield draw, tuple([value(line, n) for n in range(draw.randint(2, 60))]), line


class Examples(unittest.TestCase):
    def test_lines(self):
        self.assertEqual(
            (is_straight(ROW), is_straight((0, 0, 0, 1, 1, 1)), line_of(ROW), is_line_of((0, 0, 0, 1, 1, 1), (3, 0, 8)),
             is_line_of((0, 0, 0, 1, 1, 1), (1, 1, 3)), slopes_of((0, 0, 0, 1, 1, 1)), slopes_of((5,)),
             slopes_of((9, 4))),
            (False, True, None, True, False, ((0, 1), (2, 5)), None, ((-6, 1), (-4, 1))))

    def test_clashes(self):
        self.assertEqual(
            (clash_in(ROW), is_clash_in(ROW, ((1, 3), (3, 5))), is_clash_in(ROW, ((3, 5), (1, 3))),
             is_clash_in(ROW, ((0, 3), (2, 5))), clash_in((7, 7, 7))),
            (((1, 3), (3, 5)), True, False, False, None))

    def test_parts(self):
        self.assertEqual(
            (straight_to(ROW, 0), straight_to(ROW, 1), fewest_parts(ROW), longest_parts(ROW), fewest_parts(()),
             is_straight(()), line_of(()) is None),
            (4, 4, ((0, 4), (5, 5)), ((0, 4), (2, 5)), (), True, False))

    def test_more_values(self):
        self.assertEqual(
            (next_values((0, 0, 0, 1, 1, 1)), next_values((0, 0, 0, 1, 1, 1, 2)), next_values((9, 4)),
             how_many_on((0, 0, 0, 1, 1, 1), 2), how_many_on((0, 0, 0, 1, 1, 1), 0)),
            ((1, 2), (2, 2), (-2, 0), 3, 1))


class BesideAPlainSearch(unittest.TestCase):
    def test_all_short_rows(self):
        """All ROWs of up to six values that begin with 0 and grow by -1, 0 or 1."""
        straight = 0
        for many in range(1, 7):
            for growths in product((-1, 0, 1), repeat=many - 1):
                row = [0]
                for growth in growths:
                    row.append(row[-1] + growth)
                self.assertIs(is_straight(row), plain_straight(row), row)
                self.assertIs(growing_alike(row), plain_straight(row), row)
                straight += is_straight(row)
        self.assertGreater(straight, 50)

    def test_lines_and_slopes(self):
        straight = 0
        for draw, row in drawn_rows(241, 150, 7):
            lines = plain_lines(row) if len(row) > 1 else []
            self.assertIs(is_straight(row), len(row) < 2 or bool(lines), row)
            if not is_straight(row):
                self.assertEqual((line_of(row), slopes_of(row)), (None, None))
                self.assertIs(is_line_of(row, drawn_line(draw, 5)), False)
                continue
            line = line_of(row)
            self.assertEqual([value(line, n) for n in range(len(row))], list(row))
            self.assertIs(is_line_of(row, line), True)
            if len(row) < 2:
                self.assertIsNone(slopes_of(row))
                continue
            straight += 1
            low, high = [Fraction(top, bottom) for top, bottom in slopes_of(row)]
            self.assertEqual(slopes_of(row), tuple([(end.numerator, end.denominator) for end in (low, high)]))
            slopes = {Fraction(a, d) for a, _, d in lines}
            tried = {Fraction(a, d) for d in range(1, 2 * len(row) + 1)
                     for a in range(d * (row[1] - row[0] - 1), d * (row[1] - row[0] + 1) + 1)}
            between = {slope for slope in tried if low < slope < high}
            self.assertEqual(slopes, between, row)
            for a, b, d in draw.sample(lines, min(9, len(lines))):
                for other in ((a, b, d), (a, b + 1, d), (a + 1, b, d), (2 * a, 2 * b + 1, 2 * d)):
                    self.assertIs(is_line_of(row, other), [value(other, n) for n in range(len(row))] == list(row))
        self.assertGreater(straight, 50)

    def test_clashes(self):
        clashing = 0
        for _, row in drawn_rows(242, 300):
            parts = [(first, last) for last in range(len(row)) for first in range(last + 1)]
            plain = {(one, other) for one in parts for other in parts if is_plain_clash(row, (one, other))}
            found = clash_in(row)
            self.assertEqual(found is None, not plain, row)
            self.assertIs(is_straight(row), not plain, row)
            if found is not None:
                clashing += 1
                self.assertIn(found, plain)
                self.assertIs(is_clash_in(row, found), True)
                self.assertIs(is_clash_in(row, (found[1], found[0])), False)
        self.assertGreater(clashing, 80)

    def test_all_pairs_of_parts(self):
        for draw, row in drawn_rows(243, 25, 7):
            places = range(-2, len(row) + 2)
            for m, n, k, j in product(places, repeat=4):
                within = 0 <= m <= n < len(row) and 0 <= k <= j < len(row)
                expected = within and is_plain_clash(row, ((m, n), (k, j)))
                self.assertIs(is_clash_in(row, ((m, n), (k, j))), expected, (row, m, n, k, j))

    def test_parts(self):
        for _, row in drawn_rows(244, 200, 11):
            parts = plain_parts(row)
            for place in range(len(row)):
                ends = [last for first, last in parts if first == place]
                self.assertEqual(straight_to(row, place), max(ends), (row, place))
            longest = [(first, last) for first, last in parts
                       if not any(m <= first and last <= n and (m, n) != (first, last) for m, n in parts)]
            self.assertEqual(longest_parts(row), tuple(sorted(longest)), row)
            cut = fewest_parts(row)
            start = 0
            for first, last in cut:
                self.assertEqual((first, last), (start, max([n for m, n in parts if m == start])))
                start = last + 1
            self.assertEqual(start, len(row))
            self.assertEqual(len(cut), self.fewest(len(row), parts))

    def fewest(self, many, parts):
        """By all ways to cut."""
        best = [0] + [many + 1] * many
        for end in range(1, many + 1):
            best[end] = min([best[first] + 1 for first, last in parts if last == end - 1])
        return best[many]

    def test_next_values(self):
        for _, row in drawn_rows(245, 300):
            if len(row) < 2 or not growing_alike(row):
                continue
            # At the end the values grow by no more than at the beginning and 1.
            guess = row[-1] + row[1] - row[0]
            fitting = [number for number in range(guess - 6, guess + 7) if growing_alike(row + (number,))]
            self.assertEqual(next_values(row), (fitting[0], fitting[-1]), row)
            self.assertEqual(fitting, list(range(fitting[0], fitting[-1] + 1)))

    def test_how_many_on(self):
        for draw, row in drawn_rows(246, 60, 9):
            if len(row) < 2 or not growing_alike(row):
                continue
            rows = [row]
            for number in range(4):
                self.assertEqual(how_many_on(row, number), len(rows), (row, number))
                rows = [begun + (begun[-1] + row[1] - row[0] + off,) for begun in rows for off in range(-3, 4)
                        if growing_alike(begun + (begun[-1] + row[1] - row[0] + off,))]


class Edges(unittest.TestCase):
    def test_is_row(self):
        for thing in ((), (0,), (1, -2, BOUND ** 3), tuple(range(61)), (5,) * 5000):
            self.assertIs(is_row(thing), True)
        for thing in ([], [1, 2], (True,), (1, False), (1, None), (1, "2"), "12", "", 7, 0, None, True, False,
                      ((1,),), (1, (2,)), ([],), (1, [2])):
            self.assertIs(is_row(thing), False, thing)

    def test_is_line_of(self):
        row = (0, 0, 0, 1, 1, 1)
        for thing in ([3, 0, 8], (3, 0), (3, 0, 8, 1), (True, 0, 3), (3, False, 8), (3, 0, True), (3, 0, 0),
                      (-3, 0, -8), (3, 0, None), ("3", 0, 8), ((3, 0, 8),), (3, (0,), 8), "", "abc", None, True, 3,
                      (), [], (3, 0, [8])):
            self.assertIs(is_line_of(row, thing), False, thing)
            self.assertIs(is_line_of((), thing), False, thing)
        for thing in ((3, 0, 8), (0, 0, 1), (-BOUND ** 2, BOUND, BOUND)):
            self.assertIs(is_line_of((), thing), True)
        self.assertIs(is_line_of((4,), (99, 17, 4)), True)
        self.assertIs(is_line_of((4,), (99, 20, 4)), False)
        self.assertIs(is_line_of(ROW, (3, 0, 8)), False)

    def test_is_clash_in(self):
        good = ((1, 3), (3, 5))
        for thing in (list(good), ([1, 3], (3, 5)), ((1, 3), [3, 5]), ((1, 3),), ((1, 3), (3, 5), (3, 5)), (1, 3, 3, 5),
                      ((1, 3), (3, 6)), ((1, 3), (3, 4)), ((3, 1), (5, 3)), ((-5, -3), (-3, -1)), ((True, 3), (3, 5)),
                      ((1, 3, 3), (3, 5, 5)), ((1,), (3,)), ((1, None), (3, 5)), ((1, "3"), (3, 5)),
                      ((1, (3,)), (3, 5)), "ab", ("ab", "cd"), "", (), [], None, True, 5, ((), ()),
                      ((1, BOUND), (3, BOUND + 2)), (None, None), ((1, 3), None)):
            self.assertIs(is_clash_in(ROW, thing), False, thing)
        self.assertIs(is_clash_in(ROW, good), True)
        for thing in (good, ((0, 0), (0, 0)), ()):
            self.assertIs(is_clash_in((), thing), False)
            self.assertIs(is_clash_in((7,), thing), False)

    def test_few_values(self):
        for row in ((), (7,), (-BOUND,)):
            self.assertEqual((is_straight(row), slopes_of(row), clash_in(row)), (True, None, None))
            self.assertEqual([value(line_of(row), n) for n in range(len(row))], list(row))
        self.assertEqual((fewest_parts(()), longest_parts(())), ((), ()))
        self.assertEqual((fewest_parts((7,)), longest_parts((7,)), straight_to((7,), 0)), (((0, 0),), ((0, 0),), 0))
        row = (BOUND, -BOUND)
        self.assertEqual((is_straight(row), straight_to(row, 0), straight_to(row, 1)), (True, 1, 1))
        self.assertEqual(slopes_of(row), ((-2 * BOUND - 1, 1), (-2 * BOUND + 1, 1)))
        self.assertEqual(next_values(row), (-3 * BOUND - 1, -3 * BOUND + 1))
        self.assertEqual([how_many_on(row, number) for number in range(3)], [1, 3, 7])

    def test_bent_at_one_place_and_at_all(self):
        row = tuple(range(30)) + tuple(range(28, -1, -1))
        self.assertEqual((fewest_parts(row), longest_parts(row)), (((0, 29), (30, 58)), ((0, 29), (29, 58))))
        self.assertIs(is_clash_in(row, clash_in(row)), True)
        row = (0, 9) * 30
        self.assertEqual(fewest_parts(row), tuple([(place, place + 1) for place in range(0, 60, 2)]))
        self.assertEqual(longest_parts(row), tuple([(place, place + 1) for place in range(59)]))

    def test_sixty_values_bent_at_the_last(self):
        for last, straight in ((57, False), (58, True), (59, True), (60, True), (61, False)):
            row = tuple(range(59)) + (last,)
            self.assertIs(is_straight(row), straight)
            self.assertEqual(fewest_parts(row), ((0, 59),) if straight else ((0, 58), (59, 59)))
            self.assertEqual(clash_in(row) is None, straight)


class LongRows(unittest.TestCase):
    def test_straight_ones(self):
        for _, row, line in long_rows(251, 60):
            many = len(row)
            self.assertIs(is_straight(row), True)
            self.assertIs(is_line_of(row, line), True)
            self.assertIs(is_line_of(row, line_of(row)), True)
            self.assertIsNone(clash_in(row))
            self.assertEqual((straight_to(row, 0), fewest_parts(row)), (many - 1, ((0, many - 1),)))
            self.assertEqual(longest_parts(row), ((0, many - 1),))
            low, high = [Fraction(top, bottom) for top, bottom in slopes_of(row)]
            self.assertTrue(low < Fraction(line[0], line[2]) < high)
            pairs = [(m, n) for n in range(many) for m in range(n)]
            self.assertEqual(low, max([Fraction(row[n] - row[m] - 1, n - m) for m, n in pairs]))
            self.assertEqual(high, min([Fraction(row[n] - row[m] + 1, n - m) for m, n in pairs]))

    def test_more_values(self):
        for _, row, line in long_rows(252, 40):
            row = row[:59]
            least, greatest = next_values(row)
            self.assertTrue(least <= value(line, len(row)) <= greatest)
            for number, straight in ((least - 1, False), (least, True), (greatest, True), (greatest + 1, False)):
                self.assertIs(is_straight(row + (number,)), straight)
            row = row[:40]
            counts = [how_many_on(row, number) for number in range(7)]
            self.assertEqual(counts, sorted(counts))
            for number in range(6):
                rows = [row + (more,) for more in range(next_values(row)[0], next_values(row)[1] + 1)]
                self.assertEqual(counts[number + 1], sum([how_many_on(longer, number) for longer in rows]))


class Calls(unittest.TestCase):
    def test_rows(self):
        for row in (ROW, (0, 0, 0, 1, 1, 1), (), (5,)):
            for function in (is_straight, line_of, slopes_of, clash_in, fewest_parts, longest_parts):
                check_ways(self, function, row=row)
            for thing in ((3, 0, 8), None):
                check_ways(self, is_line_of, plain=("thing",), row=row, thing=thing)
            for thing in (((1, 3), (3, 5)), 5):
                check_ways(self, is_clash_in, plain=("thing",), row=row, thing=thing)
            check_ways(self, is_row, plain=("thing",), thing=row)
            for place in range(len(row)):
                check_ways(self, straight_to, row=row, place=place)
        row = (0, 0, 0, 1, 1, 1)
        check_ways(self, next_values, row=row)
        for number in (0, 2, 6):
            check_ways(self, how_many_on, row=row, number=number)
