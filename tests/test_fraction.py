"""FRACTIONs: what the points about slopes are made of."""

import random
import unittest
from fractions import Fraction
from math import ceil, floor

from floorcorners.fraction import (
    greatest_quotient, is_less, least_quotient, lowest, simplest_between, tops_between,
)
from tests.plain import BOUND


def pair(fraction):
    return (fraction.numerator, fraction.denominator)


def drawn_span(draw, most):
    """Two unlike Fractions, the less one first."""
    while True:
        low, high = sorted([Fraction(draw.randint(-most, most), draw.randint(1, most)) for _ in range(2)])
        if low < high:
            return low, high


class Fractions(unittest.TestCase):
    def test_lowest(self):
        for top in range(-30, 31):
            for bottom in range(1, 20):
                self.assertEqual(lowest(top, bottom), pair(Fraction(top, bottom)))

    def test_order(self):
        draw = random.Random(1)
        for _ in range(300):
            found = [(draw.randint(-9, 9), draw.randint(1, 9), place) for place in range(draw.randint(1, 6))]
            quotients = [Fraction(top, bottom) for top, bottom, _ in found]
            self.assertIs(is_less(found[0], found[-1]), quotients[0] < quotients[-1])
            self.assertEqual(greatest_quotient(found), found[quotients.index(max(quotients))])
            self.assertEqual(least_quotient(found), found[quotients.index(min(quotients))])

    def test_tops_between(self):
        draw = random.Random(2)
        for _ in range(500):
            low, high = drawn_span(draw, draw.choice((3, 12, 10 ** 20)))
            bottom = draw.randint(1, 15)
            self.assertEqual(tops_between(pair(low), pair(high), bottom),
                             (floor(low * bottom) + 1, ceil(high * bottom) - 1))

    def test_the_simplest_of_small_ones(self):
        draw = random.Random(3)
        for _ in range(1500):
            low, high = drawn_span(draw, draw.choice((2, 4, 12, 40)))
            bottom = 1
            while not floor(low * bottom) + 1 < high * bottom:
                bottom += 1
            around = range(floor(low * bottom), ceil(high * bottom) + 1)
            tops = [top for top in around if low * bottom < top < high * bottom]
            self.assertEqual(simplest_between(pair(low), pair(high)), (min(tops, key=abs), bottom))

    def test_the_simplest_of_great_ones(self):
        """Between it and the ones with a less bottom next to it on either side the span must not end."""
        draw = random.Random(4)
        for _ in range(300):
            low, high = drawn_span(draw, BOUND)
            if draw.random() < 0.7:
                high = low + Fraction(1, draw.randint(1, BOUND ** 2))
            top, bottom = simplest_between(pair(low), pair(high))
            self.assertTrue(low < Fraction(top, bottom) < high)
            if bottom > 1:
                left_bottom = pow(top, -1, bottom)
                left = Fraction(top * left_bottom - 1, bottom * left_bottom)
                right = Fraction(top * (bottom - left_bottom) + 1, bottom * (bottom - left_bottom))
                self.assertTrue(left <= low and high <= right)
