"""[6] and [1] (a): LINEs beside one another."""

import random
import unittest

from floorcorners.compare import (
    at_most, at_most_everywhere, first_above, first_unlike, greatest_lead, last_above, last_unlike, least_lead,
    leads_everywhere, same_on, where_greatest, where_least,
)
from floorcorners.corners import lower_corners, upper_corners
from floorcorners.lines import leaned, mirrored, moved, raised, value
from tests.plain import BOUND, drawn_line, near_line
from tests.ways import check_ways

ON_STRETCHES = (
    at_most, same_on, greatest_lead, least_lead, where_greatest, where_least, first_above, last_above, first_unlike,
    last_unlike,
)


def plain_answers(one, other, stretch):
    """The answers of ON_STRETCHES, by going through all numbers."""
    leads = [(n, value(one, n) - value(other, n)) for n in range(stretch[0], stretch[1] + 1)]
    above = [n for n, lead in leads if lead > 0]
    unlike = [n for n, lead in leads if lead != 0]
    most, least = max([lead for _, lead in leads]), min([lead for _, lead in leads])
    return (
        not above, not unlike, most, least, min([n for n, lead in leads if lead == most]),
        min([n for n, lead in leads if lead == least]), min(above, default=None), max(above, default=None),
        min(unlike, default=None), max(unlike, default=None))


def answers(one, other, stretch):
    return tuple([function(one, other, stretch) for function in ON_STRETCHES])


def drawn_pair(draw):
    """One LINE and another one: near it, the same, far apart, or any."""
    one = drawn_line(draw, draw.choice((2, 6, 20, 150)))
    kind = draw.randint(0, 4)
    if kind == 0:
        return one, (one[0] * 3, one[1] * 3 + draw.randint(0, 2), one[2] * 3)
    if kind == 1:
        return one, raised(near_line(draw, one), draw.choice((-1000, 1000)))
    if kind == 2:
        return one, drawn_line(draw, 20)
    return one, near_line(draw, one)


class Examples(unittest.TestCase):
    def setUp(self):
        self.third, self.shift = (1, 0, 3), (3, 0, 8)

    def test_at_most_same_leads(self):
        third, shift = self.third, self.shift
        self.assertEqual(
            (at_most(third, shift, (0, 8)), same_on(third, shift, (0, 7)), same_on(third, shift, (0, 8)),
             greatest_lead(third, shift, (0, 8)), least_lead(third, shift, (0, 8))),
            (True, True, False, 0, -1))

    def test_first_and_last(self):
        third, shift = self.third, self.shift
        self.assertEqual(
            (first_unlike(third, shift, (0, 20)), last_unlike(third, shift, (0, 8)),
             first_above(third, shift, (0, 10 ** 40)), last_above(third, shift, (-20, 20)),
             first_above(shift, third, (0, 20)), first_above(third, shift, (-20, 20))),
            (8, 8, None, -3, 8, -20))

    def test_where(self):
        third, shift = self.third, self.shift
        self.assertEqual(
            (greatest_lead(shift, third, (0, 100)), where_greatest(shift, third, (0, 100)),
             where_least(shift, third, (0, 100)), greatest_lead(shift, third, (5, 5))),
            (4, 80, 0, 0))

    def test_everywhere(self):
        third, shift = self.third, self.shift
        self.assertEqual(
            (leads_everywhere((1, 0, 3), (1, 1, 3)), leads_everywhere((2, 0, 6), (1, 0, 3)),
             leads_everywhere(third, shift), at_most_everywhere((1, 0, 3), (2, 3, 6)),
             at_most_everywhere((1, 1, 3), (1, 0, 3)), leads_everywhere((1, 7, 3), (1, 0, 3))),
            ((-1, 0), (0, 0), None, True, False, (2, 3)))


class BesideAPlainSearch(unittest.TestCase):
    def test_drawn_pairs(self):
        draw = random.Random(61)
        for _ in range(1500):
            one, other = drawn_pair(draw)
            first = draw.randint(-30, 30)
            stretch = (first, first + draw.choice((0, 1, 3, 12, 40)))
            self.assertEqual(answers(one, other, stretch), plain_answers(one, other, stretch), (one, other, stretch))

    def test_all_small_pairs(self):
        small = [(a, b, d) for d in (1, 2, 3, 4) for a in range(-d - 1, d + 2) for b in range(d)]
        for one in small[::2]:
            for other in small[1::5]:
                self.assertEqual(answers(one, other, (-7, 6)), plain_answers(one, other, (-7, 6)), (one, other))

    def test_stretches_of_one_number(self):
        draw = random.Random(62)
        for _ in range(200):
            one, other = drawn_pair(draw)
            n = draw.choice((0, draw.randint(-50, 50), BOUND, -BOUND))
            self.assertEqual(answers(one, other, (n, n)), plain_answers(one, other, (n, n)))

    def test_what_holds_at_the_corners_holds_for_all(self):
        """[1] (a) and the guarantees of [6]."""
        draw = random.Random(63)
        for _ in range(500):
            one, other = drawn_pair(draw)
            stretch = (draw.randint(-30, 0), draw.randint(0, 30))
            at_upper = [height - value(other, n) for n, height in upper_corners(one, stretch)]
            at_lower = [height - value(other, n) for n, height in lower_corners(one, stretch)]
            plain = plain_answers(one, other, stretch)
            self.assertEqual((max(at_upper) <= 0, max(at_upper), min(at_lower)), (plain[0], plain[2], plain[3]))


class Everywhere(unittest.TestCase):
    def check(self, one, other):
        """Over two whole periods; with unlike slopes, no least and no greatest lead comes."""
        period = one[2] * other[2]
        leads = [value(one, n) - value(other, n) for n in range(-period, period)]
        if one[0] * other[2] == other[0] * one[2]:
            self.assertEqual(leads_everywhere(one, other), (min(leads), max(leads)), (one, other))
            self.assertIs(at_most_everywhere(one, other), max(leads) <= 0)
        else:
            self.assertIsNone(leads_everywhere(one, other))
            self.assertIs(at_most_everywhere(one, other), False)

    def test_two_periods(self):
        draw = random.Random(64)
        for _ in range(700):
            one = drawn_line(draw, draw.choice((1, 4, 12)))
            many = draw.randint(1, 4)
            self.check(one, (one[0] * many, draw.randint(-60, 60), one[2] * many))
            self.check((one[0] * many, draw.randint(-9, 9), one[2] * many), one)

    def test_unlike_slopes(self):
        draw = random.Random(65)
        for _ in range(200):
            self.check(drawn_line(draw, 9), drawn_line(draw, 9))
        self.assertIsNone(leads_everywhere((BOUND, 0, BOUND - 1), (BOUND - 1, 0, BOUND - 2)))

    def test_great_ones(self):
        one = (BOUND - 1, 5, BOUND)
        self.assertEqual(leads_everywhere(one, (BOUND - 1, 6, BOUND)), (-1, 0))
        self.assertEqual(leads_everywhere(one, (3 * BOUND - 3, 17, 3 * BOUND)), (0, 0))
        self.assertEqual(leads_everywhere(one, (3 * BOUND - 3, 14, 3 * BOUND)), (0, 1))
        self.assertIs(at_most_everywhere(one, (3 * BOUND - 3, 14, 3 * BOUND)), False)
        self.assertIs(at_most_everywhere((3 * BOUND - 3, 14, 3 * BOUND), one), True)


class LongStretches(unittest.TestCase):
    def test_known_by_hand(self):
        """n // d and (n + 1) // d differ at the last remainder alone."""
        for d in (3, 10 ** 18, 10 ** 39 + 7):
            one, other, stretch = (1, 0, d), (1, 1, d), (-BOUND, BOUND)
            first = -BOUND + (d - 1 + BOUND) % d
            last = BOUND - (BOUND + 1) % d
            same = -BOUND if first > -BOUND else -BOUND + 1
            self.assertEqual(answers(one, other, stretch),
                             (True, False, 0, -1, same, first, None, None, first, last))
            self.assertEqual(answers(other, one, stretch)[:8], (False, False, 1, 0, first, same, first, last))

    def test_one_unlike_number_amid_a_great_stretch(self):
        """(n + 1) // d grows past n // d for the first time at d - 1, for the last time ahead of 0 at -1."""
        one, other = (1, 1, BOUND), (1, 0, BOUND)
        self.assertEqual(answers(one, other, (-5, 10 ** 39)), (False, False, 1, 0, -1, -5, -1, -1, -1, -1))
        self.assertEqual(answers(one, other, (0, BOUND)),
                         (False, False, 1, 0, BOUND - 1, 0, BOUND - 1, BOUND - 1, BOUND - 1, BOUND - 1))

    def test_a_slope_a_little_greater(self):
        """At k * d the lead of n // d is k / (d + 1) rounded up: 1 up to k = d + 1, then 2."""
        d = 10 ** 18
        one, other = (1, 0, d), (1, 0, d + 1)
        self.assertEqual(answers(one, other, (0, d * (d + 1))), (
            False, False, 1, 0, d, 0, d, d * (d + 1), d, d * (d + 1)))
        self.assertEqual(answers(one, other, (0, d * (d + 2))), (
            False, False, 2, 0, d * (d + 2), 0, d, d * (d + 2), d, d * (d + 2)))

    def test_drawn_ones_cut_at_what_is_found(self):
        """Up to the number ahead of the first one above there is none; from it on it is the first one."""
        draw = random.Random(66)
        for _ in range(300):
            one = drawn_line(draw, draw.choice((10 ** 6, 10 ** 20, BOUND)))
            other = draw.choice((near_line(draw, one), drawn_line(draw, BOUND)))
            stretch = (draw.randint(-BOUND, 0), draw.randint(0, BOUND))
            n = first_above(one, other, stretch)
            lead = greatest_lead(one, other, stretch)
            self.assertIs(n is None, lead <= 0)
            if n is not None:
                self.assertGreater(value(one, n), value(other, n))
                self.assertEqual(first_above(one, other, (n, stretch[1])), n)
                if n > stretch[0]:
                    self.assertLessEqual(greatest_lead(one, other, (stretch[0], n - 1)), 0)
                last = last_above(one, other, stretch)
                self.assertGreater(value(one, last), value(other, last))
                if last < stretch[1]:
                    self.assertLessEqual(greatest_lead(one, other, (last + 1, stretch[1])), 0)
            self.check_where(one, other, stretch, lead)

    def check_where(self, one, other, stretch, lead):
        n = where_greatest(one, other, stretch)
        self.assertEqual(value(one, n) - value(other, n), lead)
        if n > stretch[0]:
            self.assertLess(greatest_lead(one, other, (stretch[0], n - 1)), lead)
        self.assertEqual(where_least(other, one, stretch), n)
        self.assertEqual(least_lead(other, one, stretch), -lead)

    def test_moved_mirrored_and_leaned_together(self):
        draw = random.Random(67)
        for _ in range(100):
            one, other = drawn_pair(draw)
            stretch = (draw.randint(-BOUND, 0), draw.randint(0, BOUND))
            far = draw.randint(-BOUND, BOUND)
            there = (stretch[0] - far, stretch[1] - far)
            kept = answers(one, other, stretch)
            shifted = [n if n is None else n - far for n in kept[4:]]
            self.assertEqual(answers(moved(one, far), moved(other, far), there), (*kept[:4], *shifted))
            self.assertEqual(answers(leaned(one, far), leaned(other, far), stretch), kept)
            back = answers(mirrored(one), mirrored(other), (-stretch[1], -stretch[0]))
            self.assertEqual(back[:4], kept[:4])
            turned = [n if n is None else -n for n in back[6:]]
            self.assertEqual((turned[1], turned[0], turned[3], turned[2]), kept[6:])


class Calls(unittest.TestCase):
    def test_lists_names_and_arguments_that_stay(self):
        for function in ON_STRETCHES:
            for other in ((3, 0, 8), (5, 0, 16), (1, 0, 3)):
                check_ways(self, function, one=(1, 0, 3), other=other, stretch=(-9, 30))
        for function in (leads_everywhere, at_most_everywhere):
            for other in ((2, 3, 6), (3, 0, 8)):
                check_ways(self, function, one=(1, 0, 3), other=other)
