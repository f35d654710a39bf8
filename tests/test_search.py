"""The search that halves what is left."""

import unittest

from floorcorners.search import first_that


class FirstThat(unittest.TestCase):
    def test_all_places(self):
        for first in (-7, 0, 3):
            for last in range(first, first + 12):
                for least in range(first - 1, last + 3):
                    asked = []

                    def holds(n):
                        asked.append(n)
                        return n >= least

                    self.assertEqual(first_that(holds, first, last), min(max(least, first), last))
                    self.assertEqual([n for n in asked if not first <= n < last], [])

    def test_a_long_way(self):
        for least in (0, 1, 10 ** 40 - 1, 10 ** 40, 3 * 10 ** 39 + 7):
            self.assertEqual(first_that(lambda n: n >= least, 0, 10 ** 40), least)
