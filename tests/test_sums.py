"""[13] and [1] (d): sums and counts."""

import random
import unittest

from floorcorners.errors import NoNumber
from floorcorners.lines import leaned, mirrored, moved, raised, remainder, strided, turned, value
from floorcorners.sums import (
    how_many_above, how_many_same, how_many_with, lead_sum, least_sum_to, nth_above, nth_same, nth_with, sum_of,
    sum_of_squares, sum_with_n, values_met,
)
from tests.plain import BOUND, drawn_cases, drawn_line, long_cases, near_line, points
from tests.ways import check_ways

CASES = ((1, 4, 15, 90, BOUND), 25, 30)


def other_line(draw, line):
    return draw.choice((near_line(draw, line), drawn_line(draw, 15), raised(line, draw.randint(-1, 1))))


class Examples(unittest.TestCase):
    def setUp(self):
        self.third, self.near = (1, 0, 3), (5, 0, 16)

    def test_sums(self):
        third = self.third
        self.assertEqual(
            (sum_of(third, (0, 8)), sum_of(third, (-3, 3)), sum_of_squares(third, (0, 8)), sum_with_n(third, (0, 8)),
             sum_of(third, (0, 3 * 10 ** 20 - 1)) == 3 * 10 ** 20 * (10 ** 20 - 1) // 2),
            (9, -2, 15, 54, True))

    def test_remainders(self):
        third = self.third
        self.assertEqual(
            (how_many_with(third, (0, 10), 0, 0), how_many_with(third, (0, 10), 1, 5),
             how_many_with(third, (0, 10), -2, -1), nth_with(third, (0, 10), 2, 2, 1),
             nth_with((7, 5, 10 ** 12), (0, 10 ** 30), 0, 6, 1)),
            (4, 7, 0, 5, 142857142857))

    def test_two_lines(self):
        third, near = self.third, self.near
        self.assertEqual(
            (how_many_same(third, near, (0, 10)), how_many_above(third, near, (0, 10)),
             how_many_above(near, third, (0, 10)), nth_same(third, near, (0, 10), 3),
             nth_above(third, near, (0, 10), 0), lead_sum(third, near, (0, 10)), lead_sum(third, (0, 0, 1), (-4, 8))),
            (8, 3, 0, 4, 3, 3, 9))

    def test_values_and_goals(self):
        third = self.third
        self.assertEqual(
            (values_met(third, (0, 8)), values_met((7, 0, 2), (0, 8)), values_met((-1, 0, 3), (0, 8)),
             least_sum_to(third, (0, 100), 9), least_sum_to(third, (0, 100), 0), least_sum_to(third, (0, 8), 10)),
            (3, 9, 4, 8, 0, None))

    def test_no_number(self):
        with self.assertRaises(NoNumber) as caught:
            nth_same(self.third, self.near, (0, 10), 8)
        self.assertEqual(caught.exception.number, 8)


class BesidePlainCounting(unittest.TestCase):
    def check_numbers(self, function, more, found):
        """That the function tells each of the numbers found, and raises beside them."""
        for number, n in enumerate(found):
            self.assertEqual(function(*more, number), n)
        for number in (-1, -BOUND, len(found), len(found) + 7, 10 ** 90):
            with self.assertRaises(NoNumber) as caught:
                function(*more, number)
            self.assertEqual(caught.exception.number, number)

    def test_sums(self):
        for _, line, stretch in drawn_cases(111, 500, *CASES):
            found = points(line, stretch)
            self.assertEqual(sum_of(line, stretch), sum([y for _, y in found]), (line, stretch))
            self.assertEqual(sum_of_squares(line, stretch), sum([y * y for _, y in found]), (line, stretch))
            self.assertEqual(sum_with_n(line, stretch), sum([n * y for n, y in found]), (line, stretch))

    def test_sums_of_all_small_lines(self):
        for d in range(1, 7):
            for a in range(-d, 2 * d + 1):
                for b in range(-1, d + 1):
                    found = points((a, b, d), (-5, 8))
                    self.assertEqual(sum_of((a, b, d), (-5, 8)), sum([y for _, y in found]))
                    self.assertEqual(sum_of_squares((a, b, d), (-5, 8)), sum([y * y for _, y in found]))
                    self.assertEqual(sum_with_n((a, b, d), (-5, 8)), sum([n * y for n, y in found]))

    def test_remainders(self):
        for draw, line, stretch in drawn_cases(112, 300, *CASES):
            d = line[2]
            low = draw.choice((0, -3, draw.randint(-5, d + 3), draw.randint(0, d - 1)))
            high = low + draw.choice((0, 1, draw.randint(0, d), d))
            found = [n for n, _ in points(line, stretch) if low <= remainder(line, n) <= high]
            self.assertEqual(how_many_with(line, stretch, low, high), len(found), (line, stretch, low, high))
            self.check_numbers(nth_with, (line, stretch, low, high), found)

    def test_remainders_of_which_there_are_none(self):
        for line, stretch in (((1, 0, 3), (-9, 9)), ((5, 2, 1), (0, 0)), ((7, 5, BOUND), (-BOUND, BOUND))):
            many, d = stretch[1] - stretch[0] + 1, line[2]
            for low, high in ((-5, -1), (d, d), (d, d + 9), (-BOUND, -1), (d, 10 ** 60), (-1, -1)):
                self.assertEqual(how_many_with(line, stretch, low, high), 0)
                self.check_numbers(nth_with, (line, stretch, low, high), [])
            for low, high in ((0, d - 1), (-7, d - 1), (0, d), (-1, 10 ** 60)):
                self.assertEqual(how_many_with(line, stretch, low, high), many)
                self.assertEqual(nth_with(line, stretch, low, high, many - 1), stretch[1])
            self.assertEqual(how_many_with(line, stretch, -7, 0), how_many_with(line, stretch, 0, 0))
            self.assertEqual(how_many_with(line, stretch, d - 1, 2 * d), how_many_with(line, stretch, d - 1, d - 1))

    def test_two_lines(self):
        for draw, line, stretch in drawn_cases(113, 350, *CASES):
            other = other_line(draw, line)
            leads = [(n, y - value(other, n)) for n, y in points(line, stretch)]
            same = [n for n, lead in leads if lead == 0]
            above = [n for n, lead in leads if lead > 0]
            self.assertEqual(how_many_same(line, other, stretch), len(same), (line, other, stretch))
            self.assertEqual(how_many_above(line, other, stretch), len(above), (line, other, stretch))
            self.assertEqual(lead_sum(line, other, stretch), sum([lead for _, lead in leads if lead > 0]))
            self.check_numbers(nth_same, (line, other, stretch), same)
            self.check_numbers(nth_above, (line, other, stretch), above)

    def test_values_met(self):
        for _, line, stretch in drawn_cases(114, 400, *CASES):
            self.assertEqual(values_met(line, stretch), len({y for _, y in points(line, stretch)}), (line, stretch))
        for line in ((4, 1, 4), (-4, 1, 4), (3, 1, 4), (-3, 1, 4), (5, 1, 4), (-5, 1, 4), (0, 9, 4)):
            for first in range(-4, 5):
                self.assertEqual(values_met(line, (first, 9)), len({y for _, y in points(line, (first, 9))}), line)

    def test_goals(self):
        draw = random.Random(115)
        for _ in range(400):
            most = draw.choice((2, 9, 40))
            line = (draw.randint(0, most), draw.randint(0, most), draw.randint(1, most))
            first = draw.randint(0, 20)
            stretch = (first, first + draw.choice((0, 5, 40)))
            total, sums = 0, []
            for n, y in points(line, stretch):
                total += y
                sums.append((n, total))
            for goal in (-9, 0, 1, total - 1, total, total + 1, draw.randint(0, total + 1)):
                reached = [n for n, so_far in sums if so_far >= goal]
                expected = reached[0] if reached else None
                self.assertEqual(least_sum_to(line, stretch, goal), expected, (line, stretch, goal))


class LongStretches(unittest.TestCase):
    def test_cut_in_two(self):
        for draw, line, stretch in long_cases(121, 60):
            first, last = stretch
            middle = draw.randint(first, last)
            other = other_line(draw, line)
            low = draw.randint(-5, line[2])
            high = low + draw.randint(0, line[2])
            for function, more in ((sum_of, ()), (sum_of_squares, ()), (sum_with_n, ()), (how_many_with, (low, high))):
                whole = function(line, stretch, *more)
                ahead = function(line, (first, middle), *more)
                behind = function(line, (middle + 1, last), *more) if middle < last else 0
                self.assertEqual(whole, ahead + behind, function)
            for function in (how_many_same, how_many_above, lead_sum):
                whole = function(line, other, stretch)
                ahead = function(line, other, (first, middle))
                behind = function(line, other, (middle + 1, last)) if middle < last else 0
                self.assertEqual(whole, ahead + behind, function)

    def test_mirrored_raised_and_leaned(self):
        for draw, line, stretch in long_cases(122, 60):
            first, last = stretch
            many = last - first + 1
            ones = (first + last) * many // 2
            squares = self.squares_to(last) - self.squares_to(first - 1)
            by = draw.randint(-BOUND, BOUND)
            plain, with_n, of_squares = sum_of(line, stretch), sum_with_n(line, stretch), sum_of_squares(line, stretch)
            back = (-last, -first)
            self.assertEqual(sum_of(mirrored(line), back), plain)
            self.assertEqual(sum_with_n(mirrored(line), back), -with_n)
            self.assertEqual(sum_of_squares(mirrored(line), back), of_squares)
            self.assertEqual(sum_of(turned(turned(line)), stretch), plain)
            self.assertEqual(sum_of(raised(line, by), stretch), plain + by * many)
            self.assertEqual(sum_with_n(raised(line, by), stretch), with_n + by * ones)
            self.assertEqual(sum_of_squares(raised(line, by), stretch), of_squares + 2 * by * plain + by * by * many)
            self.assertEqual(sum_of(leaned(line, by), stretch), plain + by * ones)
            self.assertEqual(sum_with_n(leaned(line, by), stretch), with_n + by * squares)
            self.assertEqual(sum_of_squares(leaned(line, by), stretch),
                             of_squares + 2 * by * with_n + by * by * squares)
            self.assertEqual(sum_of(moved(line, by), (first - by, last - by)), plain)

    def squares_to(self, n):
        """The sum of the squares from 0 to n, taken away for n below 0."""
        return n * (n + 1) * (2 * n + 1) // 6

    def test_known_by_hand(self):
        """n // d over whole periods: each of 0, 1 .. k - 1 comes d times."""
        for d in (1, 3, 10 ** 18, 10 ** 30 + 57):
            for k in (1, 2, 10 ** 9):
                stretch = (0, d * k - 1)
                self.assertEqual(sum_of((1, 0, d), stretch), d * (k * (k - 1) // 2))
                self.assertEqual(sum_of_squares((1, 0, d), stretch), d * ((k - 1) * k * (2 * k - 1) // 6))
                # With n = d * y + r the sum of n * y is d * d * y * y and the r, d * (d - 1) / 2, times y.
                self.assertEqual(sum_with_n((1, 0, d), stretch), d * d * ((k - 1) * k * (2 * k - 1) // 6)
                                 + (d * (d - 1) // 2) * (k * (k - 1) // 2))
                self.assertEqual(values_met((1, 0, d), stretch), k)
                self.assertEqual(how_many_with((1, 0, d), stretch, 0, 0), k)
                self.assertEqual(nth_with((1, 0, d), stretch, d - 1, d - 1, k - 1), d * k - 1)
                self.assertEqual(least_sum_to((1, 0, d), stretch, 1), d if k > 1 else None)

    def test_lines_in_turn_on_the_even_and_the_odd_numbers(self):
        for draw, line, _ in long_cases(123, 40):
            last = draw.randint(1, BOUND // 2)
            even, odd = strided(line, 2), strided(moved(line, 1), 2)
            for function in (sum_of, sum_of_squares):
                self.assertEqual(function(line, (0, 2 * last + 1)),
                                 function(even, (0, last)) + function(odd, (0, last)))

    def test_numbers_by_their_counts(self):
        """The one with a number is one of them, and that many are ahead of it."""
        some = 0
        for draw, line, stretch in long_cases(124, 25):
            low = draw.randint(0, line[2] - 1)
            high = min(line[2] - 1, low + draw.randint(0, line[2]))
            other = near_line(draw, line)
            for count, nth, more in ((how_many_with, nth_with, (low, high)), (self.same, self.nth_same, (other,)),
                                     (self.above, self.nth_above, (other,))):
                many = count(line, stretch, *more)
                for number in {0, many // 2, many - 1} if many else ():
                    n = nth(line, stretch, *more, number)
                    self.assertEqual(count(line, (stretch[0], n), *more), number + 1)
                    self.assertEqual(count(line, (n, n), *more), 1)
                    some += 1
                with self.assertRaises(NoNumber) as caught:
                    nth(line, stretch, *more, many)
                self.assertEqual(caught.exception.number, many)
        self.assertGreater(some, 60)

    def same(self, line, stretch, other):
        return how_many_same(line, other, stretch)

    def nth_same(self, line, stretch, other, number):
        return nth_same(line, other, stretch, number)

    def above(self, line, stretch, other):
        return how_many_above(line, other, stretch)

    def nth_above(self, line, stretch, other, number):
        return nth_above(line, other, stretch, number)

    def test_two_lines_known_by_hand(self):
        """(n + 1) // d is above n // d at the last number of each period alone."""
        for d in (2, 10 ** 18, 10 ** 33 + 7):
            one, other = (1, 1, d), (1, 0, d)
            stretch = (-5 * d, 10 ** 6 * d - 1)
            periods = 10 ** 6 + 5
            self.assertEqual(how_many_above(one, other, stretch), periods)
            self.assertEqual(how_many_above(other, one, stretch), 0)
            self.assertEqual(how_many_same(one, other, stretch), periods * (d - 1))
            self.assertEqual((lead_sum(one, other, stretch), lead_sum(other, one, stretch)), (periods, 0))
            self.assertEqual(nth_above(one, other, stretch, 0), -4 * d - 1)
            self.assertEqual(nth_above(one, other, stretch, periods - 1), 10 ** 6 * d - 1)
            self.assertEqual(nth_same(one, other, stretch, 5 * (d - 1)), 0)

    def test_points_between(self):
        """lead_sum and the other way about together are the sums of the leads."""
        for draw, line, stretch in long_cases(125, 60):
            other = other_line(draw, line)
            self.assertEqual(lead_sum(line, other, stretch) - lead_sum(other, line, stretch),
                             sum_of(line, stretch) - sum_of(other, stretch))
            self.assertEqual(how_many_same(line, other, stretch) + how_many_above(line, other, stretch)
                             + how_many_above(other, line, stretch), stretch[1] - stretch[0] + 1)

    def test_great_goals(self):
        draw = random.Random(126)
        for _ in range(20):
            line = (draw.randint(0, BOUND), draw.randint(0, BOUND), draw.randint(1, BOUND))
            stretch = (draw.randint(0, BOUND // 2), BOUND)
            whole = sum_of(line, stretch)
            for goal in (whole, whole // 3, 1, draw.randint(0, whole)):
                n = least_sum_to(line, stretch, goal)
                self.assertGreaterEqual(sum_of(line, (stretch[0], n)), goal)
                if n > stretch[0]:
                    self.assertLess(sum_of(line, (stretch[0], n - 1)), goal)
            self.assertIsNone(least_sum_to(line, stretch, whole + 1))


class Calls(unittest.TestCase):
    def test_lists_names_and_arguments_that_stay(self):
        line, other = (5, 2, 8), (11, 0, 16)
        for stretch in ((0, 30), (4, 4)):
            for function in (sum_of, sum_of_squares, sum_with_n, values_met):
                check_ways(self, function, line=line, stretch=stretch)
            check_ways(self, how_many_with, line=line, stretch=stretch, low=1, high=4)
            check_ways(self, least_sum_to, line=line, stretch=stretch, goal=9)
            for function in (how_many_same, how_many_above, lead_sum):
                check_ways(self, function, line=line, other=other, stretch=stretch)
            for number in (0, 2, 50, -1):
                check_ways(self, nth_with, line=line, stretch=stretch, low=1, high=4, number=number)
                for function in (nth_same, nth_above):
                    check_ways(self, function, line=line, other=other, stretch=stretch, number=number)
