"""[8]: shift LINEs."""

import random
import unittest

from floorcorners.compare import first_unlike, same_on
from floorcorners.errors import TooFew
from floorcorners.lines import value, values
from floorcorners.shifts import (
    adds, bare_multipliers, by_one_more, by_rounding_up, least_bare_shift, least_rounding_shift, least_shift,
    multipliers, reach, shift_line, word_for,
)
from tests.plain import BOUND, drawn_line
from tests.test_formulas import drawn_cases, long_cases, plain_lines
from tests.ways import check_ways

WITH_A_STRETCH = (
    (multipliers, (3,)), (adds, (3, 1)), (least_shift, ()), (shift_line, ()), (bare_multipliers, (3,)),
    (least_bare_shift, ()), (word_for, (3,)), (least_rounding_shift, ()))


def plain_bare(line, stretch, shift):
    """All m with which (m, 0, 2 ** shift) serves: each has at the end that is not 0 the value of line there."""
    n = stretch[0] or stretch[1]
    bottom = 2 ** shift
    around = sorted([value(line, n) * bottom // n, (value(line, n) + 1) * bottom // n])
    wanted = values(line, stretch)
    return [m for m in range(around[0] - 1, around[1] + 2) if values((m, 0, bottom), stretch) == wanted]


def plain_word(line, stretch, shift):
    """The least number of bits, from all shift LINEs that serve."""
    bits = []
    for m, c, _ in plain_lines(line, stretch, 2 ** shift):
        held = [m, c] + [m * n + c for n in range(stretch[0], stretch[1] + 1)]
        if min(held) >= 0:
            bits.append(max(held).bit_length())
    return min(bits, default=None)


def ends(found):
    return (found[0], found[-1]) if found else None


class Examples(unittest.TestCase):
    def setUp(self):
        self.third = (1, 0, 3)

    def test_multipliers_and_adds(self):
        third = self.third
        self.assertEqual(
            (multipliers(third, (0, 5), 2), least_shift(third, (0, 5)), shift_line(third, (0, 5)),
             adds(third, (0, 5), 2, 1), multipliers(third, (0, 5), 3), adds(third, (0, 5), 3, 3)),
            ((1, 1), 2, (1, 1, 4), (1, 1), (1, 3), (0, 0)))

    def test_bare_ones(self):
        third = self.third
        self.assertEqual(
            (least_bare_shift(third, (0, 5)), bare_multipliers(third, (0, 5), 3), bare_multipliers(third, (0, 5), 2),
             bare_multipliers(third, (0, 7), 3), least_bare_shift(third, (0, 8)), bare_multipliers(third, (0, 8), 5)),
            (3, (3, 3), None, (3, 3), 5, (11, 11)))

    def test_rounded_ones_and_reach(self):
        third = self.third
        self.assertEqual(
            (by_rounding_up(third, 4), reach(third, by_rounding_up(third, 4)), reach(third, by_rounding_up(third, 3)),
             by_one_more(third, 4), reach(third, by_one_more(third, 4)), reach(third, (2, 0, 6)),
             reach(third, (1, 3, 3))),
            ((6, 0, 16), 7, 7, (5, 5, 16), 17, None, -1))

    def test_least_rounding_shifts_and_words(self):
        third = self.third
        self.assertEqual(
            (least_rounding_shift(third, (0, 8)), least_rounding_shift(third, (-3, 0)),
             least_rounding_shift((3, 1, 4), (-9, 9)), word_for(third, (0, 5), 3), word_for(third, (0, 5), 2),
             word_for((1, -1, 3), (0, 5), 3)),
            (5, None, 2, 4, 3, None))

    def test_too_few(self):
        with self.assertRaises(TooFew):
            least_shift(self.third, (4, 4))


class BesideAPlainSearch(unittest.TestCase):
    def test_multipliers_and_adds(self):
        for _, line, stretch in drawn_cases(91, 120):
            for shift in range(5):
                found = plain_lines(line, stretch, 2 ** shift)
                tops = sorted({m for m, _, _ in found})
                self.assertEqual(multipliers(line, stretch, shift), ends(tops), (line, stretch, shift))
                self.assertEqual(tops, list(range(tops[0], tops[-1] + 1)) if tops else [])
                for m in [line[0] - 9] + ([tops[0] - 1, *tops, tops[-1] + 1] if tops else []):
                    those = [c for top, c, _ in found if top == m]
                    self.assertEqual(adds(line, stretch, shift, m), ends(those))
                    self.assertEqual(those, list(range(those[0], those[-1] + 1)) if those else [])

    def test_least_shifts(self):
        for _, line, stretch in drawn_cases(92, 200):
            shift = 0
            while not plain_lines(line, stretch, 2 ** shift):
                shift += 1
            self.assertEqual(least_shift(line, stretch), shift)
            self.assertEqual(shift_line(line, stretch), plain_lines(line, stretch, 2 ** shift)[0])
            self.assertIsNotNone(multipliers(line, stretch, shift + 1))

    def test_bare_ones(self):
        for draw, line, stretch in drawn_cases(93, 500):
            if draw.random() < 0.7:
                line = (line[0], draw.choice((0, 0, 1, line[2] - 1)), line[2])
            found = [plain_bare(line, stretch, shift) for shift in range(10)]
            for shift, those in enumerate(found):
                self.assertEqual(bare_multipliers(line, stretch, shift), ends(those), (line, stretch, shift))
                self.assertEqual(those, list(range(those[0], those[-1] + 1)) if those else [])
            # Ends with numbers up to 27 differ by 1 / 729 or more.
            least = [shift for shift, those in enumerate(found) if those]
            self.assertEqual(least_bare_shift(line, stretch), least[0] if least else None, (line, stretch))

    def test_bare_ones_around_0(self):
        for d in (1, 2, 3, 4):
            for a in range(-d - 1, d + 2):
                for b in range(-1, 2):
                    for first in range(-3, 2):
                        for last in range(first + 1, 4):
                            self.check_bare((a, b, d), (first, last))

    def check_bare(self, line, stretch):
        """Ends with numbers up to 3 differ by 1 / 9 or more, if at all."""
        found = [ends(plain_bare(line, stretch, shift)) for shift in range(6)]
        self.assertEqual([bare_multipliers(line, stretch, shift) for shift in range(6)], found, (line, stretch))
        least = [shift for shift, those in enumerate(found) if those]
        self.assertEqual(least_bare_shift(line, stretch), least[0] if least else None, (line, stretch))

    def test_words(self):
        some = 0
        for draw, line, stretch in drawn_cases(94, 250):
            first = draw.randint(0, 6)
            stretch = (first, first + stretch[1] - stretch[0])
            for shift in range(5):
                found = word_for(line, stretch, shift)
                self.assertEqual(found, plain_word(line, stretch, shift), (line, stretch, shift))
                some += found is not None
        self.assertGreater(some, 200)

    def test_rounded_ones(self):
        for _, line, stretch in drawn_cases(95, 150):
            a, b, d = line
            for shift in (0, 1, 2, 5, 300):
                bottom = 2 ** shift
                self.assertEqual(by_rounding_up(line, shift), (-(-a * bottom // d), -(-b * bottom // d), bottom))
                m = a * bottom // d
                self.assertEqual(by_one_more(line, shift), (m, b * bottom // d + m, bottom))
            wanted = values(line, stretch)
            least = [shift for shift in range(24) if values(by_rounding_up(line, shift), stretch) == wanted]
            found = least_rounding_shift(line, stretch)
            self.assertEqual(found if found is None or found < 24 else None, least[0] if least else None)

    def test_reach(self):
        draw = random.Random(96)
        for _ in range(400):
            line = drawn_line(draw, draw.choice((2, 9, 30)))
            many = draw.randint(1, 5)
            other = (line[0] * many + draw.randint(-1, 1), line[1] * many + draw.randint(0, 1), line[2] * many)
            found = reach(line, other)
            same = [value(line, n) == value(other, n) for n in range(2000)]
            if False in same:
                self.assertEqual(found, same.index(False) - 1)
            elif found is None:
                self.assertEqual(line[0] * other[2], other[0] * line[2])
            else:
                self.assertIs(same_on(line, other, (0, found)), True)
                self.assertIs(same_on(line, other, (found + 1, found + 1)), False)


class Edges(unittest.TestCase):
    def test_stretches_of_one_number(self):
        for function, more in WITH_A_STRETCH:
            for n in (0, 4, 10 ** 40):
                with self.assertRaises(TooFew):
                    function((1, 0, 3), (n, n), *more)
        for function, more in WITH_A_STRETCH[:6] + WITH_A_STRETCH[7:]:
            with self.assertRaises(TooFew):
                function((1, 0, 3), (-4, -4), *more)

    def test_bare_ones_that_serve_nowhere(self):
        """The value at 0 is not 0; a slope of 1 / 3 alone would do; the values grow by too little from the first on."""
        for line, stretch in (((1, 1, 1), (0, 3)), ((1, 0, 3), (-3, 3)), ((1, 0, 3), (-3, BOUND)), ((0, 5, 1), (1, 9)),
                              ((0, -2, 1), (1, 9)), ((1, 1, 1), (-9, -1)), ((0, 1, 1), (-1, 1)),
                              ((2, 3, 3), (0, 3)), ((0, -1, 1), (-3, 0))):
            self.assertIsNone(least_bare_shift(line, stretch), (line, stretch))
            for shift in (0, 3, 40, 300):
                self.assertIsNone(bare_multipliers(line, stretch, shift))

    def test_bare_ones_of_one_slope_alone(self):
        """On both sides of 0, and far enough, nothing but the slope itself does."""
        for power in (0, 1, 5, 100):
            d = 2 ** power
            self.assertEqual(least_bare_shift((1, 0, d), (-d, d)), power)
            self.assertEqual(bare_multipliers((1, 0, d), (-d, d), power), (1, 1))
            self.assertEqual(bare_multipliers((3, 0, d), (-BOUND, BOUND), power + 2), (12, 12))
            if power:
                self.assertIsNone(bare_multipliers((1, 0, d), (-d, d), power - 1))

    def test_bare_ones_with_great_shifts(self):
        """On a STRETCH beyond the bounds: m * d - 2 ** shift has to be from 0 to about 2 ** shift / last."""
        last = 2 ** 400
        shift = least_bare_shift((1, 0, 3), (0, last))
        least, greatest = bare_multipliers((1, 0, 3), (0, last), shift)
        self.assertGreater(shift, 300)
        self.assertIsNone(bare_multipliers((1, 0, 3), (0, last), shift - 1))
        self.assertEqual((least, least <= greatest), ((2 ** shift + 2) // 3, True))
        self.assertIs(same_on((1, 0, 3), (least, 0, 2 ** shift), (0, last)), True)

    def test_words_of_noughts(self):
        self.assertEqual(word_for((0, 0, 1), (0, 9), 0), 0)
        self.assertEqual(word_for((0, 0, 5), (7, 9), 10), 0)
        self.assertEqual(word_for((0, 1, 1), (0, 9), 0), 1)
        self.assertEqual(word_for((0, 1, 1), (0, 9), 4), 5)
        self.assertEqual(word_for((1, 0, 1), (0, 8), 0), 4)
        self.assertEqual(word_for((1, 0, 1), (0, 7), 0), 3)
        self.assertIsNone(word_for((-1, 0, 1), (0, 7), 0))
        self.assertIsNone(word_for((0, -1, 1), (0, 7), 3))
        self.assertIsNone(word_for((1, 0, 3), (0, 5), 0))

    def test_words_with_no_m_from_0_on(self):
        """Values 5 5 4 4 .. fall: though all m * n + c can be above 0, m can't."""
        self.assertIsNone(word_for((-1, 11, 2), (0, 7), 4))

    def test_all_numbers_from_0_on_and_the_ones_ahead(self):
        """reach looks at no number below 0."""
        self.assertIsNone(reach((0, 0, 1), (0, 1, 2)))
        self.assertEqual(first_unlike((1, 0, 3), (1, 0, 4), (-9, 9)), -8)
        self.assertEqual(reach((1, 0, 3), (1, 0, 4)), 2)
        self.assertEqual(reach((1, 0, 3), (1, -1, 3)), -1)
        self.assertEqual(reach((1, 0, BOUND), (1, 1, BOUND)), BOUND - 2)

    def test_least_rounding_shift_beyond_300(self):
        """On (0, 2 ** 600) the multiplier of 3 would need a shift of about 600."""
        self.assertIsNone(least_rounding_shift((1, 0, 3), (0, 2 ** 600)))
        # The values are -1 and 0, and the m rounded up is 1: 2 ** shift must not be less than the greatest n.
        self.assertEqual(least_rounding_shift((5, 0, 2 ** 300), (-BOUND, BOUND)), 133)
        self.assertEqual(least_rounding_shift((1, 0, 2 ** 300), (-2 ** 299, 2 ** 299)), 300)
        self.assertIsNone(least_rounding_shift((1, 0, 2 ** 301), (-2 ** 302, 2 ** 302)))


class GreatOnes(unittest.TestCase):
    def test_divisors_beside_their_multipliers(self):
        """m = (2 ** shift + e) / d: n has another value from n * e >= 2 ** shift * (d - n % d) on.

        If 2 ** shift is at least d * e, this comes first at an n with the remainder d - 1.
        """
        draw = random.Random(97)
        some = 0
        for _ in range(300):
            d = draw.choice((3, 7, 10, 10 ** 9, 10 ** 18, draw.randint(3, 10 ** 18)))
            shift = draw.randint(0, 200)
            m, c, bottom = by_rounding_up((1, 0, d), shift)
            self.assertEqual((c, bottom), (0, 2 ** shift))
            over = m * d - bottom
            if over == 0:
                self.assertIsNone(reach((1, 0, d), (m, c, bottom)))
            elif bottom >= d * over:
                least = -(-bottom // over)
                first = least + (d - 1 - least) % d
                self.assertEqual(reach((1, 0, d), (m, c, bottom)), first - 1)
                self.assertEqual(first_unlike((1, 0, d), (m, c, bottom), (0, BOUND)), first if first <= BOUND else None)
                if first > 1:
                    self.check_bare(d, shift, m, first)
                some += 1
        self.assertGreater(some, 100)

    def check_bare(self, d, shift, m, first):
        """The rounded up m is the least that serves, as far as some do."""
        self.assertEqual(bare_multipliers((1, 0, d), (0, max(first - 1, d)), shift)[0], m)
        self.assertIsNone(bare_multipliers((1, 0, d), (0, first), shift))
        self.assertGreater(least_bare_shift((1, 0, d), (0, first)), shift)
        self.assertLessEqual(least_bare_shift((1, 0, d), (0, max(first - 1, d))), shift)

    def test_long_stretches(self):
        for draw, line, stretch in long_cases(98, 60):
            shift = least_shift(line, stretch)
            self.assertLessEqual(shift, 270)
            served = shift_line(line, stretch)
            self.assertEqual(served[2], 2 ** shift)
            self.assertIs(same_on(line, served, stretch), True)
            self.assertEqual(multipliers(line, stretch, shift)[0], served[0])
            self.assertEqual(adds(line, stretch, shift, served[0])[0], served[1])
            self.assertIsNone(adds(line, stretch, shift, served[0] - 1))
            if shift:
                self.assertIsNone(multipliers(line, stretch, shift - 1))
            for more in (1, 2, draw.randint(0, 30)):
                least, greatest = multipliers(line, stretch, shift + more)
                for m in (least, greatest, draw.randint(least, greatest)):
                    low, high = adds(line, stretch, shift + more, m)
                    for c, serves in ((low, True), (high, True), (low - 1, False), (high + 1, False)):
                        self.assertIs(same_on(line, (m, c, 2 ** (shift + more)), stretch), serves)
                self.assertIsNone(adds(line, stretch, shift + more, least - 1))
                self.assertIsNone(adds(line, stretch, shift + more, greatest + 1))

    def test_long_bare_ones(self):
        draw = random.Random(99)
        some = 0
        for _ in range(150):
            d = draw.choice((9, 10 ** 9, 10 ** 18, BOUND))
            a, b = draw.randint(-d, d), draw.choice((0, 0, draw.randint(0, d - 1)))
            stretch = draw.choice((
                (0, BOUND), (draw.randint(1, BOUND - 1), BOUND), (-BOUND, -draw.randint(1, 10 ** 39)),
                (draw.randint(-99, 0), draw.randint(1, 99)), (-BOUND, BOUND)))
            shift = least_bare_shift((a, b, d), stretch)
            if shift is None:
                self.assertIsNone(bare_multipliers((a, b, d), stretch, 290))
                continue
            some += 1
            for more in (0, 3):
                least, greatest = bare_multipliers((a, b, d), stretch, shift + more)
                for m in (least - 1, least, greatest, greatest + 1):
                    serves = same_on((a, b, d), (m, 0, 2 ** (shift + more)), stretch)
                    self.assertIs(serves, least <= m <= greatest)
            if shift:
                self.assertIsNone(bare_multipliers((a, b, d), stretch, shift - 1))
                # No m next to the slope does, with the shift below.
                near = a * 2 ** (shift - 1) // d
                for m in (near - 1, near, near + 1, near + 2):
                    self.assertIs(same_on((a, b, d), (m, 0, 2 ** (shift - 1)), stretch), False)
        self.assertGreater(some, 40)

    def test_great_words(self):
        """2 ** 64 + 1 for 3, on 64 bits: m has 66 bits behind the point 2 further, m * n less than 2 ** 130."""
        self.assertEqual(word_for((1, 0, 3), (0, 2 ** 64 - 1), 66), 129)
        least = multipliers((1, 0, 3), (0, 2 ** 64 - 1), 66)[0]
        c = adds((1, 0, 3), (0, 2 ** 64 - 1), 66, least)[0]
        self.assertEqual((least * (2 ** 64 - 1) + c).bit_length(), 129)


class Calls(unittest.TestCase):
    def test_lists_names_and_arguments_that_stay(self):
        for line in ((1, 0, 3), (5, -2, 8)):
            for stretch in ((0, 5), (3, 30), (4, 4)):
                for function in (least_shift, shift_line, least_bare_shift, least_rounding_shift):
                    check_ways(self, function, line=line, stretch=stretch)
                for function in (multipliers, bare_multipliers, word_for):
                    for shift in (0, 5, 9):
                        check_ways(self, function, line=line, stretch=stretch, shift=shift)
                check_ways(self, adds, line=line, stretch=stretch, shift=6, m=22)
            for function in (by_rounding_up, by_one_more):
                check_ways(self, function, line=line, shift=7)
            check_ways(self, reach, line=line, other=(11, 0, 32))
