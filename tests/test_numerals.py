"""Numbers in decimal digits."""

import re
import unittest
from itertools import product

from floorcorners.numerals import end_of_digits, is_digits, is_numeral


class Numerals(unittest.TestCase):
    def test_all_short_words(self):
        for many in range(5):
            for signs in product("019- +", repeat=many):
                word = "".join(signs)
                self.assertIs(is_digits(word), re.fullmatch("0|[1-9][0-9]*", word) is not None, word)
                self.assertIs(is_numeral(word), re.fullmatch("0|-?[1-9][0-9]*", word) is not None, word)

    def test_other_words(self):
        for word in ("1\n", "\n1", "1_0", "1.", "1e3", "\u0663", "\u00b2", "--1", "- 1", "0x1", "a", "1" * 400 + "a"):
            self.assertIs(is_numeral(word), False, word)
        for word in ("1234567890", "-9", "1" * 400, "-" + "1" * 400):
            self.assertIs(is_numeral(word), True, word)

    def test_all_signs(self):
        for code in range(200):
            expected = chr(code) in "0123456789"
            for function in (is_digits, is_numeral):
                self.assertIs(function("1" + chr(code)), expected, code)

    def test_ends(self):
        self.assertEqual([end_of_digits("a12b3", at) for at in range(6)], [0, 3, 3, 3, 5, 5])
