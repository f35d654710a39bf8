"""[18]: texts."""

import random
import re
import unittest
from math import gcd

from floorcorners.errors import BadText
from floorcorners.fraction import lowest
from floorcorners.texts import (
    fraction_read, fraction_text, line_read, line_text, row_read, row_text, stretch_read, stretch_text, told_read,
    told_text,
)
from tests.plain import BOUND, drawn_line
from tests.ways import answer_of, check_ways

NUMBER = "(0|-?[1-9][0-9]*)"
SIGNS = "0123456789-+*/n():,. \n"
READERS = (line_read, stretch_read, told_read, row_read, fraction_read)


def plain_line(text):
    found = re.fullmatch(r"\(" + NUMBER + r" \* n ([+-]) (0|[1-9][0-9]*)\) // ([1-9][0-9]*)", text)
    if found is None or (found[2], found[3]) == ("-", "0"):
        return None
    return (int(found[1]), int(found[2] + found[3]), int(found[4]))


def plain_stretch(text):
    found = re.fullmatch(NUMBER + r" \.\. " + NUMBER, text)
    if found is None or int(found[1]) > int(found[2]):
        return None
    return (int(found[1]), int(found[2]))


def plain_told(text):
    if text == "-":
        return ()
    if re.fullmatch(f"{NUMBER}: {NUMBER}(, {NUMBER}: {NUMBER})*", text) is None:
        return None
    told = tuple([tuple([int(word) for word in part.split(": ")]) for part in text.split(", ")])
    numbers = [n for n, _ in told]
    return told if numbers == sorted(set(numbers)) else None


def plain_row(text):
    if re.fullmatch(f"{NUMBER}( {NUMBER})*", text) is None:
        return None
    return tuple([int(word) for word in text.split(" ")])


def plain_fraction(text):
    found = re.fullmatch(NUMBER + "/([1-9][0-9]*)", text)
    if found is None or gcd(int(found[1]), int(found[2])) != 1:
        return None
    return (int(found[1]), int(found[2]))


PLAIN = {line_read: plain_line, stretch_read: plain_stretch, told_read: plain_told, row_read: plain_row,
         fraction_read: plain_fraction}


def drawn_things(draw):
    """(what writes, what reads, what is written), one of each kind."""
    most = draw.choice((1, 12, 10 ** 20, BOUND))
    first = draw.randint(-most, most)
    numbers = sorted({draw.randint(-most, most) for _ in range(draw.randint(0, 5))})
    told = tuple([(n, draw.randint(-most, most)) for n in numbers])
    row = tuple([draw.randint(-most, most) for _ in range(draw.randint(1, 6))])
    return ((line_text, line_read, drawn_line(draw, most)),
            (stretch_text, stretch_read, (first, draw.randint(first, most))), (told_text, told_read, told),
            (row_text, row_read, row),
            (fraction_text, fraction_read, lowest(draw.randint(-most, most), draw.randint(1, most))))


class Examples(unittest.TestCase):
    def test_written(self):
        self.assertEqual(
            (line_text((5, 2, 8)), line_text((-3, -1, 1)), line_text((0, 0, 7)), stretch_text((-3, 10)),
             told_text(((0, 0), (2, -1))), told_text(()), row_text((0, -1, 5)), fraction_text((-2, 3))),
            ('(5 * n + 2) // 8', '(-3 * n - 1) // 1', '(0 * n + 0) // 7', '-3 .. 10', '0: 0, 2: -1', '-', '0 -1 5',
             '-2/3'))

    def test_read(self):
        self.assertEqual(
            (line_read("(5 * n + 2) // 8"), stretch_read("-3 .. 10"), told_read("0: 0, 2: -1"), told_read("-"),
             row_read("0 -1 5"), fraction_read("-2/3"), fraction_read("0/1")),
            ((5, 2, 8), (-3, 10), ((0, 0), (2, -1)), (), (0, -1, 5), (-2, 3), (0, 1)))

    def test_bad_texts(self):
        for function, text in ((line_read, "(5 * n - 0) // 8"), (told_read, "2: 1, 0: 0"), (fraction_read, "2/4")):
            with self.assertRaises(BadText):
                function(text)


class BesideAPlainReader(unittest.TestCase):
    def check_text(self, function, text):
        """Whether it is the text of something, as the plain reader tells, too."""
        expected = PLAIN[function](text)
        answer = (BadText, {}) if expected is None else ("returned", expected)
        self.assertEqual(answer_of(function, text), answer, (function, text))
        return expected is not None

    def test_there_and_back(self):
        draw = random.Random(271)
        for _ in range(200):
            for write, read, thing in drawn_things(draw):
                text = write(thing)
                self.assertEqual(read(text), thing)
                self.assertEqual(write(read(text)), text)
                self.assertIs(self.check_text(read, text), True)

    def test_texts_that_differ_by_one_sign(self):
        draw = random.Random(272)
        good = 0
        for _ in range(120):
            for write, read, thing in drawn_things(draw):
                text = write(thing)
                for at in range(len(text) + 1):
                    more = draw.choice(SIGNS)
                    good += self.check_text(read, text[:at] + more + text[at:])
                    good += self.check_text(read, text[:at] + text[at + 1:])
                    good += self.check_text(read, text[:at] + more + text[at + 1:])
                    good += self.check_text(read, text[:at + 1] + text[at:])
        self.assertGreater(good, 5000)

    def test_all_short_texts_of_a_kind(self):
        for read, words in (
                (stretch_read, ("0", "1", "-1", "-0", "01", "", " ", "..", " .. ", "-", ".")),
                (told_read, ("0", "1", "-1", "-0", "01", "", ": ", ":", ", ", ",", "-")),
                (row_read, ("0", "1", "-1", "-0", "01", "", " ", "  ", "-", "+", "\n")),
                (fraction_read, ("0", "1", "-1", "-0", "01", "", "/", "2", "-2", " ", "-"))):
            for one in words:
                for two in words:
                    for three in words:
                        for four in ("", "0", " ", "1: 1", "2"):
                            self.check_text(read, one + two + three + four)


class Edges(unittest.TestCase):
    def test_texts_of_nothing(self):
        for text in ("", " ", "\n", "-", "--", "n", "//", "0", "5", "-0"):
            for function in READERS:
                expected = PLAIN[function](text)
                self.assertEqual(answer_of(function, text),
                                 (BadText, {}) if expected is None else ("returned", expected), (function, text))

    def test_lines(self):
        for text in ("(5*n + 2) // 8", "(5 * n + 2)// 8", "(5 * n + 2) //8", "(5 * n +2) // 8", "(5  * n + 2) // 8",
                     " (5 * n + 2) // 8", "(5 * n + 2) // 8 ", "(5 * n + 2) // 8\n", "\n(5 * n + 2) // 8",
                     "5 * n + 2 // 8",
                     "(05 * n + 2) // 8", "(5 * n + 02) // 8", "(5 * n + 2) // 08", "(-0 * n + 2) // 8",
                     "(5 * n + -2) // 8", "(5 * n - -2) // 8", "(5 * n - 0) // 8", "(5 * n + -0) // 8",
                     "(+5 * n + 2) // 8",
                     "(5 * n + 2) // 0", "(5 * n + 2) // -8", "(5 * n + 2) // 8 // 1", "(5 * n + 2) / 8",
                     "(5 * m + 2) // 8",
                     "[5 * n + 2] // 8", "(5 + n + 2) // 8", "(5 * n + 2 // 8", "5 * n + 2) // 8", "((5 * n + 2)) // 8",
                     "(5 * n * 2) // 8", "(5 * n + 2) // ", "(5 * n + ) // 8", "( * n + 2) // 8", "(- * n + 2) // 8",
                     "(5 * n + 2) // 8 ..", "(n + 2) // 8", "(5 * n) // 8", "(5 * n / 2) // 8", "(5 * n +- 2) // 8"):
            self.assertEqual(answer_of(line_read, text), (BadText, {}), text)
        self.assertEqual(line_read("(0 * n + 0) // 1"), (0, 0, 1))
        self.assertEqual(line_read("(6 * n - 4) // 2"), (6, -4, 2))

    def test_told_values(self):
        for text in ("0: 0,2: 1", "0: 0, 2:1", "0:0", "0: 0, ", ", 0: 0", "0: 0, 0: 0", "0: 0, 0: 1", "2: 1, 0: 0",
                     "0 : 0", "0: 0; 2: 1", "0: 0, -", "-, 0: 0", "--", "- ", "0: 0: 0", "0: ", ": 0", "00: 0", "0: -0",
                     "0: 0,  2: 1", "0:  0", "0: 0\n", "1: 0, -1: 0"):
            self.assertEqual(answer_of(told_read, text), (BadText, {}), text)
        many = tuple([(n, -n) for n in range(-60, 60)])
        self.assertEqual(told_read(told_text(many)), many)

    def test_fractions(self):
        for text in ("1/0", "0/0", "0/2", "2/4", "-2/4", "1/-2", "-1/-2", "1", "1/2/3", "/2", "1/", "/", "1 / 2",
                     "+1/2",
                     "01/2", "1/02", "-0/1", "1//2", "6/3", "1/2\n"):
            self.assertEqual(answer_of(fraction_read, text), (BadText, {}), text)
        self.assertEqual((fraction_read("-7/1"), fraction_read("0/1"), fraction_read("1/9")), ((-7, 1), (0, 1), (1, 9)))

    def test_stretches_and_rows(self):
        for text in ("1 .. 0", "0 .. -1", "0..1", "0 ..1", "0.. 1", "0 .. 1 .. 2", "0  .. 1", "0 .. ", " .. 1",
                     "0 ... 1",
                     "0 . 1", "-0 .. 1", "0 .. 01", "0 .. 1\n", "0 1", "0, 1", ".."):
            self.assertEqual(answer_of(stretch_read, text), (BadText, {}), text)
        for text in ("", " ", "0  1", " 0", "0 ", "0 -0", "0 00", "0,1", "0 +1", "0\n1", "0 1\n", "-", "0 - 1", "a"):
            self.assertEqual(answer_of(row_read, text), (BadText, {}), text)
        self.assertEqual((stretch_read("4 .. 4"), row_read("7"), row_read("-7 -7 0")), ((4, 4), (7,), (-7, -7, 0)))

    def test_great_numbers(self):
        great = 10 ** 300 + 7
        for write, read, thing in ((line_text, line_read, (-great, -great, great)), (row_text, row_read, (great,)),
                                   (stretch_text, stretch_read, (-great, great)),
                                   (told_text, told_read, ((-great, great),)),
                                   (fraction_text, fraction_read, (-great, great + 1))):
            self.assertEqual(read(write(thing)), thing)
        self.assertEqual(row_text((great,)), "1" + "0" * 299 + "7")


class Calls(unittest.TestCase):
    def test_written(self):
        check_ways(self, line_text, line=(-3, -1, 1))
        check_ways(self, stretch_text, stretch=(-3, 10))
        for told in ((), ((0, 0), (2, -1))):
            check_ways(self, told_text, told=told)
        check_ways(self, row_text, row=(0, -1, 5))
        check_ways(self, fraction_text, fraction=(-2, 3))

    def test_read(self):
        for text in ("(5 * n + 2) // 8", "-3 .. 10", "0: 0, 2: -1", "-", "0 -1 5", "-2/3", ""):
            for function in READERS:
                check_ways(self, function, text=text)
