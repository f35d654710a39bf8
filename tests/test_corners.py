"""[5] and [1] (a): CORNERs."""

import random
import unittest

from floorcorners.corners import (
    flattest_from, greatest_of, how_many_on_lower, how_many_on_upper, least_of, lower_corners, next_lower,
    next_upper, on_lower, on_upper, steepest_from, twice_area, upper_corners,
)
from floorcorners.lines import turned, value
from tests.plain import (
    BOUND, drawn_line, drawn_stretch, greatest_worth_and_ends, hull_points, plain_extreme, plain_twice_area,
    plain_way_out, points, slope,
)


def short_cases(seed, many, longest=16):
    draw = random.Random(seed)
    for _ in range(many):
        yield draw, drawn_line(draw, draw.choice((1, 5, 25, 400, BOUND))), drawn_stretch(draw, 30, longest)


def long_cases(seed, many):
    """STRETCHes with numbers of up to forty figures, LINEs with d of each size."""
    draw = random.Random(seed)
    for _ in range(many):
        line = drawn_line(draw, draw.choice((7, 10 ** 6, 10 ** 20, BOUND, BOUND)))
        first = draw.randint(-BOUND, BOUND - 1)
        last = draw.choice((BOUND, draw.randint(first, BOUND), min(BOUND, first + draw.randint(0, 10 ** 12))))
        yield draw, line, (first, last)


FIBONACCI = [1, 1]
while FIBONACCI[-1] < BOUND:
    FIBONACCI.append(FIBONACCI[-1] + FIBONACCI[-2])

SPECIAL = [
    ((0, 5, 7), (-BOUND, BOUND)),
    ((3, 5, 1), (-BOUND, BOUND)),
    ((-6, 4, 3), (-BOUND, BOUND)),
    ((1, 0, BOUND), (-BOUND, BOUND)),
    ((-1, BOUND, BOUND), (-BOUND, BOUND)),
    ((BOUND - 1, 0, BOUND), (0, BOUND)),
    ((1, 0, 3), (BOUND, BOUND)),
    ((1, 0, 3), (-BOUND, 1 - BOUND)),
    ((10 ** 20, 0, 10 ** 20 + 1), (0, 10 ** 20)),
    ((FIBONACCI[-3], 0, FIBONACCI[-2]), (-BOUND, BOUND)),
    ((FIBONACCI[-3], FIBONACCI[-4], FIBONACCI[-2]), (-BOUND, BOUND)),
    ((10 ** 90 + 7, -10 ** 80, 3 * 10 ** 88 + 1), (-10 ** 70, 10 ** 85)),
]


class Examples(unittest.TestCase):
    def setUp(self):
        self.line, self.stretch = (5, 2, 8), (0, 7)

    def test_corners_of_thirds(self):
        self.assertEqual(
            (upper_corners((1, 0, 3), (0, 5)), lower_corners((1, 0, 3), (0, 5)), lower_corners((1, 0, 3), (0, 7)),
             upper_corners((-2, 1, 5), (4, 4))),
            ([(0, 0), (3, 1), (5, 1)], [(0, 0), (2, 0), (5, 1)], [(0, 0), (2, 0), (5, 1), (7, 2)], [(4, -2)]))

    def test_next_ones(self):
        line, stretch = self.line, self.stretch
        self.assertEqual(
            (upper_corners(line, stretch), lower_corners(line, stretch), next_upper(line, stretch, 0),
             next_upper(line, stretch, 7), next_lower(line, stretch, -9)),
            ([(0, 0), (6, 4), (7, 4)], [(0, 0), (1, 0), (7, 4)], (6, 4), None, (0, 0)))

    def test_worths(self):
        line, stretch = self.line, self.stretch
        self.assertEqual(
            (greatest_of(line, stretch, -5, 8), least_of(line, stretch, -5, 8), greatest_of(line, stretch, -2, 3),
             greatest_of(line, stretch, 0, 0), least_of(line, stretch, 1, 0)),
            ((2, 6, 6), (-5, 1, 1), (0, 0, 6), (0, 0, 7), (0, 0, 0)))

    def test_ways_and_counts(self):
        line, stretch = self.line, self.stretch
        self.assertEqual(
            (steepest_from(line, stretch, 0), flattest_from(line, stretch, 1), steepest_from(line, stretch, 7),
             on_upper(line, stretch, 3), on_lower(line, stretch, 3), how_many_on_upper(line, stretch),
             how_many_on_lower(line, stretch), twice_area(line, stretch)),
            (((2, 3), 6), ((2, 3), 7), None, True, False, 4, 4, 8))

    def test_twenty_figures(self):
        self.assertEqual(
            (upper_corners((10 ** 20, 0, 10 ** 20 + 1), (0, 10 ** 20)) == [(0, 0), (10 ** 20, 10 ** 20 - 1)],
             lower_corners((10 ** 20, 0, 10 ** 20 + 1), (0, 10 ** 20))
             == [(0, 0), (1, 0), (10 ** 20, 10 ** 20 - 1)]),
            (True, True))


class BesideAPlainSearch(unittest.TestCase):
    def check_corners(self, line, stretch):
        found = points(line, stretch)
        self.assertEqual(upper_corners(line, stretch), hull_points(found, 1, False), (line, stretch))
        self.assertEqual(lower_corners(line, stretch), hull_points(found, -1, False), (line, stretch))

    def test_corners_of_all_small_lines(self):
        for d in range(1, 8):
            for a in range(-1, d + 1):
                for b in range(d):
                    for last in (0, 1, 2, 5, 9, 14):
                        self.check_corners((a, b, d), (0, last))

    def test_corners_of_drawn_lines(self):
        for _, line, stretch in short_cases(21, 300, 40):
            self.check_corners(line, stretch)

    def test_next_ones(self):
        for _, line, stretch in short_cases(22, 120):
            found = points(line, stretch)
            for sign, function in ((1, next_upper), (-1, next_lower)):
                corners = hull_points(found, sign, False)
                for n in [-BOUND, stretch[0] - 2] + [n for n, _ in found] + [stretch[1] + 2, BOUND]:
                    behind = [corner for corner in corners if corner[0] > n]
                    self.assertEqual(function(line, stretch, n), behind[0] if behind else None)

    def test_worths(self):
        for draw, line, stretch in short_cases(23, 300):
            a, _, d = line
            drawn = (draw.randint(-9, 9), draw.randint(-9, 9))
            great = (draw.randint(-BOUND, BOUND), draw.randint(-BOUND, BOUND))
            for u, v in (drawn, great, (0, 0), (0, 1), (0, -1), (1, 0), (-1, 0), (-a, d), (a, -d), (-2, 3), (1, -2)):
                self.assertEqual(greatest_of(line, stretch, u, v), plain_extreme(line, stretch, u, v, max))
                self.assertEqual(least_of(line, stretch, u, v), plain_extreme(line, stretch, u, v, min))

    def test_ways(self):
        for _, line, stretch in short_cases(24, 150):
            for n, _ in points(line, stretch):
                self.assertEqual(steepest_from(line, stretch, n), plain_way_out(line, stretch, n, max))
                self.assertEqual(flattest_from(line, stretch, n), plain_way_out(line, stretch, n, min))

    def test_which_and_how_many_lie_on_the_hull(self):
        for _, line, stretch in short_cases(25, 200):
            found = points(line, stretch)
            above, below = hull_points(found, 1, True), hull_points(found, -1, True)
            for point in found:
                self.assertIs(on_upper(line, stretch, point[0]), point in above)
                self.assertIs(on_lower(line, stretch, point[0]), point in below)
            self.assertEqual(how_many_on_upper(line, stretch), len(above))
            self.assertEqual(how_many_on_lower(line, stretch), len(below))

    def test_area(self):
        for _, line, stretch in short_cases(26, 120, 12):
            self.assertEqual(twice_area(line, stretch), plain_twice_area(line, stretch))

    def test_one_formula_beside_another_one(self):
        """[1] (a): what holds at the corners holds FOR ALL numbers of the STRETCH."""
        for draw, line, stretch in short_cases(27, 300):
            other = drawn_line(draw, 20)
            leads = [y - value(other, n) for n, y in points(line, stretch)]
            at_upper = [y - value(other, n) for n, y in upper_corners(line, stretch)]
            at_lower = [y - value(other, n) for n, y in lower_corners(line, stretch)]
            self.assertEqual((max(at_upper), min(at_lower)), (max(leads), min(leads)))


class Edges(unittest.TestCase):
    def test_stretches_of_one_number(self):
        for n in (0, -7, BOUND, -BOUND):
            line, stretch = (2, -1, 5), (n, n)
            point = (n, value(line, n))
            self.assertEqual((upper_corners(line, stretch), lower_corners(line, stretch)), ([point], [point]))
            self.assertEqual((next_upper(line, stretch, n - 1), next_lower(line, stretch, n - 1)), (point, point))
            self.assertEqual((next_upper(line, stretch, n), next_lower(line, stretch, n)), (None, None))
            self.assertEqual(greatest_of(line, stretch, 2, -3), (2 * n - 3 * point[1], n, n))
            self.assertEqual(least_of(line, stretch, 2, -3), (2 * n - 3 * point[1], n, n))
            self.assertEqual((steepest_from(line, stretch, n), flattest_from(line, stretch, n)), (None, None))
            self.assertEqual((on_upper(line, stretch, n), on_lower(line, stretch, n)), (True, True))
            self.assertEqual((how_many_on_upper(line, stretch), how_many_on_lower(line, stretch)), (1, 1))
            self.assertEqual(twice_area(line, stretch), 0)

    def test_all_points_on_one_straight_way(self):
        for line in ((0, 5, 7), (3, 5, 1), (-6, 4, 3)):
            stretch = (-BOUND, BOUND)
            ends = [(-BOUND, value(line, -BOUND)), (BOUND, value(line, BOUND))]
            growth = line[0] // line[2]
            self.assertEqual((upper_corners(line, stretch), lower_corners(line, stretch)), (ends, ends))
            self.assertEqual(steepest_from(line, stretch, 3), ((growth, 1), BOUND))
            self.assertEqual(flattest_from(line, stretch, 3), ((growth, 1), BOUND))
            self.assertEqual(greatest_of(line, stretch, -growth, 1), (value(line, 0), -BOUND, BOUND))
            self.assertEqual((on_upper(line, stretch, 5), on_lower(line, stretch, 5)), (True, True))
            self.assertEqual(how_many_on_upper(line, stretch), 2 * BOUND + 1)
            self.assertEqual(how_many_on_lower(line, stretch), 2 * BOUND + 1)
            self.assertEqual(twice_area(line, stretch), 0)

    def test_points_amid_an_edge_are_no_corners(self):
        stretch = (0, 3 * 10 ** 20)
        self.assertEqual(upper_corners((1, 0, 3), stretch), [(0, 0), (3 * 10 ** 20, 10 ** 20)])
        self.assertEqual(how_many_on_upper((1, 0, 3), stretch), 10 ** 20 + 1)
        self.assertEqual(on_upper((1, 0, 3), stretch, 3 * 10 ** 9), True)
        self.assertEqual(on_upper((1, 0, 3), stretch, 3 * 10 ** 9 + 1), False)
        self.assertEqual(greatest_of((1, 0, 3), stretch, -1, 3), (0, 0, 3 * 10 ** 20))


class LongStretches(unittest.TestCase):
    def check_hull(self, line, stretch, corners, sign):
        """That these are the corners, by what no other list fulfils.

        They are POINTs, from the first to the last one, bend the right way at each of them, and no
        POINT lies beyond an edge, as another way to the greatest worths tells.
        """
        self.assertLessEqual(len(corners), 500)
        self.assertEqual([n for n, _ in corners if not stretch[0] <= n <= stretch[1]], [])
        self.assertEqual((corners[0][0], corners[-1][0]), stretch)
        self.assertEqual(corners, [(n, value(line, n)) for n, _ in corners])
        slopes = [sign * slope(left, right) for left, right in zip(corners, corners[1:])]
        self.assertEqual(slopes, sorted(set(slopes), reverse=True))
        seen = line if sign == 1 else turned(line)
        for left, right in list(zip(corners, corners[1:]))[::7]:
            wide, high = right[0] - left[0], sign * (right[1] - left[1])
            found = greatest_worth_and_ends(seen, stretch, -high, wide)
            self.assertEqual(found, (wide * sign * left[1] - high * left[0], left[0], right[0]))

    def check_all_edges_are_tight(self, line, stretch, corners, sign):
        seen = line if sign == 1 else turned(line)
        for left, right in zip(corners, corners[1:]):
            wide, high = right[0] - left[0], sign * (right[1] - left[1])
            found = greatest_worth_and_ends(seen, stretch, -high, wide)
            self.assertEqual(found[1:], (left[0], right[0]))

    def test_corners_of_drawn_lines(self):
        for _, line, stretch in long_cases(31, 120):
            self.check_hull(line, stretch, upper_corners(line, stretch), 1)
            self.check_hull(line, stretch, lower_corners(line, stretch), -1)

    def test_corners_of_special_lines(self):
        for line, stretch in SPECIAL[:-1]:
            for sign, corners in ((1, upper_corners(line, stretch)), (-1, lower_corners(line, stretch))):
                self.check_hull(line, stretch, corners, sign)
                self.check_all_edges_are_tight(line, stretch, corners, sign)

    def test_numbers_beyond_the_bounds(self):
        line, stretch = SPECIAL[-1]
        corners = upper_corners(line, stretch)
        self.assertEqual((corners[0][0], corners[-1][0]), stretch)
        slopes = [slope(left, right) for left, right in zip(corners, corners[1:])]
        self.assertEqual(slopes, sorted(set(slopes), reverse=True))

    def test_next_ones(self):
        for draw, line, stretch in long_cases(32, 60):
            for corners, function in ((upper_corners(line, stretch), next_upper),
                                      (lower_corners(line, stretch), next_lower)):
                for n in (draw.randint(-BOUND, BOUND), draw.choice(corners)[0], stretch[0] - 1):
                    behind = [corner for corner in corners if corner[0] > n]
                    self.assertEqual(function(line, stretch, n), behind[0] if behind else None)

    def test_worths(self):
        for draw, line, stretch in long_cases(33, 150):
            a, _, d = line
            most = draw.choice((5, 10 ** 20, BOUND))
            drawn = (draw.randint(-most, most), draw.randint(-most, most))
            for u, v in (drawn, (-a, d), (a, -d), (0, 1), (0, -1), (1, 0), (-1, 0), (0, 0)):
                worth, first, last = greatest_worth_and_ends(line, stretch, u, v)
                self.assertEqual(greatest_of(line, stretch, u, v), (worth, first, last))
                self.assertEqual(least_of(line, stretch, -u, -v), (-worth, first, last))

    def test_ways(self):
        for draw, line, stretch in long_cases(34, 100):
            n = draw.randint(*stretch)
            if n == stretch[1]:
                continue
            self.check_way(line, (n, stretch[1]), steepest_from(line, stretch, n), 1)
            self.check_way(line, (n, stretch[1]), flattest_from(line, stretch, n), -1)

    def check_way(self, line, rest, found, sign):
        """No POINT behind lies beyond the way, and none behind m lies on it."""
        (top, bottom), m = found
        here = (rest[0], value(line, rest[0]))
        quotient = slope(here, (m, value(line, m)))
        self.assertEqual((quotient.numerator, quotient.denominator), (top, bottom))
        seen = line if sign == 1 else turned(line)
        worth, first, last = greatest_worth_and_ends(seen, rest, -sign * top, bottom)
        self.assertEqual((worth, first, last), (sign * (bottom * here[1] - top * here[0]), here[0], m))

    def test_which_lie_on_the_hull(self):
        for draw, line, stretch in long_cases(35, 60):
            for corners, function in ((upper_corners(line, stretch), on_upper),
                                      (lower_corners(line, stretch), on_lower)):
                for n, _ in corners[::5] + corners[-1:]:
                    self.assertIs(function(line, stretch, n), True)
                for left, right in list(zip(corners, corners[1:]))[::5]:
                    amid = slope(left, right).denominator
                    for n in (left[0] + amid, right[0] - amid, draw.randint(left[0], right[0])):
                        straight = (n - left[0]) * (right[1] - left[1]) == (value(line, n) - left[1]) * (
                            right[0] - left[0])
                        self.assertIs(function(line, stretch, n), straight)

    def test_counts(self):
        for _, line, stretch in long_cases(36, 60):
            for corners, function in ((upper_corners(line, stretch), how_many_on_upper),
                                      (lower_corners(line, stretch), how_many_on_lower)):
                edges = zip(corners, corners[1:])
                steps = [(right[0] - left[0]) // slope(left, right).denominator for left, right in edges]
                self.assertEqual(function(line, stretch), 1 + sum(steps))

    def test_area_is_that_of_the_polygon(self):
        for _, line, stretch in long_cases(37, 60):
            around = lower_corners(line, stretch) + upper_corners(line, stretch)[::-1]
            around.append(around[0])
            crosses = [left[0] * right[1] - right[0] * left[1] for left, right in zip(around, around[1:])]
            self.assertEqual(twice_area(line, stretch), sum(crosses))


class Calls(unittest.TestCase):
    """Lists for tuples, arguments by their names, arguments that stay, new lists."""

    def check(self, function, more):
        given = {"line": (-7, 5, 12), "stretch": (-9, 30), **more}
        listed = {**given, "line": [-7, 5, 12], "stretch": [-9, 30]}
        answer = function(*given.values())
        for again in (function(**given), function(**listed), function(*listed.values())):
            self.assertEqual(again, answer)
            self.assertIs(type(again), type(answer))
            if isinstance(answer, list):
                self.assertIsNot(again, answer)
                self.assertEqual([type(corner) for corner in again], [tuple] * len(answer))
        self.assertEqual((listed["line"], listed["stretch"]), ([-7, 5, 12], [-9, 30]))

    def test_all_functions(self):
        for function in (upper_corners, lower_corners, how_many_on_upper, how_many_on_lower, twice_area):
            self.check(function, {})
        for function in (next_upper, next_lower, steepest_from, flattest_from, on_upper, on_lower):
            for n in (-9, 4, 30):
                self.check(function, {"n": n})
        for function in (greatest_of, least_of):
            self.check(function, {"u": 7, "v": 12})
            self.check(function, {"u": 7, "v": -12})

    def test_answers_are_made_of_tuples(self):
        line, stretch = [-7, 5, 12], [-9, 30]
        for answer in (next_upper(line, stretch, 0), next_lower(line, stretch, 0), greatest_of(line, stretch, 1, 1),
                       least_of(line, stretch, 1, 1), steepest_from(line, stretch, 0),
                       steepest_from(line, stretch, 0)[0], flattest_from(line, stretch, 0)[0]):
            self.assertIsInstance(answer, tuple)

    def test_a_list_belongs_to_the_caller(self):
        line, stretch = (5, 2, 8), (0, 7)
        for function in (upper_corners, lower_corners):
            answer = function(line, stretch)
            kept = list(answer)
            answer.clear()
            self.assertEqual(function(line, stretch), kept)
