"""[16] and [1] (e): written formulas."""

import random
import unittest
from fractions import Fraction
from itertools import product
from math import lcm

from floorcorners.errors import BadText, NotStraight
from floorcorners.lines import normal, value
from floorcorners.words import (
    bend_of, first_apart, formula_line, formula_value, is_bend, is_formula, line_words, period_of, same_formulas,
    slope_of,
)
from tests.formulas import bent_text, drawn_tree, plain_formula, plain_value, tree_period, tree_text, tree_value
from tests.plain import BOUND, drawn_line
from tests.ways import answer_of, check_ways

NUMBERS = (-BOUND, -1000, -7, -2, -1, 0, 1, 2, 3, 5, 8, 41, BOUND)
STRAIGHT = ("n", "7", "-n // 3", "n // 2 + (n + 1) // 2", "(n + 7) // 2 // 3", "2 * n + (n >> 3)", "-(-n // 4)",
            "n // 5 * 5 + n mod 5", "n mod 1", "n // 1 - n", "(5 * n + 2) // 8", "n * 0 // 3", "n mod 2 // 2",
            "3 * (n // 6) + n mod 6 // 2")
NO_FORMULAS = (
    "", " ", "n ", " n", "n\n", "\nn", "n\t+ 1", "N", "x", "n+", "+n", "+3", "n+ +3", "n-+3", "-", "--", "()", "( )",
    "(n", "n)", "(n))", "((n)", "n(3)", "(n)(3)", "3(n)", "(3)n", "nn", "n3", "3n", "3 n", "1 2", "01", "00", "007",
    "-01", "n/2", "n / / 2", "n/ /2", "n ///2", "n//", "n//n", "n//-2", "n//(2)", "n//0", "n//00", "n//02", "n mod",
    "mod 3",
    "n mod 0", "n mod n", "n mod -3", "n mod (3)", "n mod 03", "n mo 3", "n m od 3", "nMOD3", "n%3", "n>1", "n> >1",
    "n>>", "n>>>1", "n>>-1", "n>>n", "n>>(1)", "n>>301", "n>>1+1", "n>>1*2", "n>>1-1", "n>>1//2", "n>>1mod2", "3>>n",
    "n*n", "n*(n)", "n*3*n", "n*(3*n)", "(n+1)*(n-1)", "n//2*n", "n mod 2*n", "n*-n", "-n*n", "2*n*n", "(n-n)*n",
    "n**2", "2**n", "2 * * 3", "1_000", "1.0", "n=1", "n,1", "n;", "0x1", "1e3", "n and 1", "not n", "n if n else n",
    "n//2.0", "[n]", "n~1", "~n", "n&1", "n<<1", "n^1", "n|1", "n@2", "(,)", "n()", "\u0665", "n+\u0663", "n\u00a0+1",
    "\u00b2")


def texts(seed, many, deep=4, divisors=(1, 2, 3, 4, 5, 7), most=200):
    """(draw, tree, text) so often, with periods of at most so much."""
    draw = random.Random(seed)
    found = 0
    while found < many:
        tree = drawn_tree(draw, draw.randint(0, deep), divisors)
        text = tree_text(draw, tree)
        if len(text) <= 200 and tree_period(tree) <= most and plain_formula(text):
            found += 1
            yield draw, tree, text


def plain_slope(tree):
    period = tree_period(tree)
    return Fraction(tree_value(tree, 5 * period) - tree_value(tree, 0), 5 * period)


def both_have(slope, pairs, times=3):
    """Whether some LINE with the slope, in lowest terms or up to so many times them, has these two values."""
    (i, x), (j, y) = pairs
    for by in range(1, times + 1):
        a, d = slope.numerator * by, slope.denominator * by
        if any((a * j + b) // d == y for b in range(d * x - a * i, d * x - a * i + d)):
            return True
    return False


def plain_line(tree):
    """The LINE in lowest terms that has all values, by trying each b; None if there is none."""
    slope = plain_slope(tree)
    a, d = slope.numerator, slope.denominator
    numbers = range(-tree_period(tree), 2 * tree_period(tree))
    heights = [tree_value(tree, n) for n in numbers]
    for b in range(d * tree_value(tree, 0), d * tree_value(tree, 0) + d):
        if all((a * n + b) // d == height for n, height in zip(numbers, heights)):
            return (a, b, d)
    return None


class Examples(unittest.TestCase):
    def test_values_and_lines(self):
        self.assertEqual(
            (formula_value("(153 * n + 2) // 5", 4), formula_line("(n + 7) // 2 // 3"),
             formula_line("2 * n + (n >> 3)"), formula_line("n // 2 + (n + 1) // 2"), formula_line("-(-n // 4)"),
             line_words((17, 0, 8)), line_words((-1, -3, 2))),
            (122, (1, 7, 6), (17, 0, 8), (1, 0, 1), (1, 3, 4), '(17 * n + 0) // 8', '(-1 * n - 3) // 2'))

    def test_slopes_periods_and_bends(self):
        self.assertEqual(
            (slope_of("n mod 3 + n // 2"), period_of("n mod 3 + n // 2"), is_bend("n mod 3 + n // 2", (2, 3)),
             is_bend("n mod 3 + n // 2", (0, 1)), bend_of("n // 5 * 5 + n mod 5"),
             is_bend("n // 2 * 2", bend_of("n // 2 * 2"))),
            ((1, 2), 6, True, False, None, True))

    def test_two_formulas(self):
        self.assertEqual(
            (same_formulas("n // 6", "n // 2 // 3"), same_formulas("n mod 4", "n - n // 4 * 4"),
             first_apart("n * 2 // 3", "n // 3 * 2"), first_apart("n", "n + n // 10"), first_apart("n >> 1", "n // 2")),
            (True, True, 2, 10, None))

    def test_what_is_a_formula(self):
        self.assertEqual(
            (is_formula("n"), is_formula("n * n"), is_formula("n // (2)"), is_formula("2 n"), is_formula("n--3"),
             is_formula(""), is_formula("n // 0"), is_formula("3 * -n mod 07"), is_formula(None)),
            (True, False, False, False, True, False, False, False, False))

    def test_errors(self):
        with self.assertRaises(NotStraight):
            formula_line("n mod 2")
        with self.assertRaises(BadText):
            formula_value("n +", 1)


class BesideAPlainReader(unittest.TestCase):
    def test_trees(self):
        draw = random.Random(261)
        for _ in range(900):
            tree = drawn_tree(draw, draw.randint(0, 5), (1, 2, 3, 8, 10, 2 ** 60, 10 ** 49))
            text = tree_text(draw, tree)
            if plain_formula(text) is None:
                self.assertIs(is_formula(text), False, text)
                continue
            self.assertIs(is_formula(text), True, text)
            for n in NUMBERS:
                self.assertEqual(formula_value(text, n), tree_value(tree, n), (text, n))

    def test_texts_with_one_sign_more_or_less(self):
        good = 0
        for draw, _, text in texts(262, 500):
            for _ in range(12):
                bent = bent_text(draw, text)
                good += self.check_text(bent)
                good += self.check_text(bent_text(draw, bent) if bent else bent)
        self.assertGreater(good, 2500)

    def check_text(self, text):
        """Whether it is a FORMULA, as the plain reader tells, too."""
        tree = plain_formula(text)
        self.assertIs(is_formula(text), tree is not None, text)
        if tree is None:
            self.assertEqual(answer_of(formula_value, text, 5), (BadText, {}), text)
            return False
        for n in (-10, 0, 7):
            self.assertEqual(formula_value(text, n), plain_value(tree, n), text)
        return True

    def test_all_short_texts(self):
        words = ("n", "2", "0", "+", "-", "*", "//", "mod", ">>", "(", ")")
        good = 0
        for many in range(1, 5):
            for found in product(words, repeat=many):
                good += self.check_text("".join(found))
        for many in (1, 2, 3):
            for found in product(words, repeat=many):
                good += self.check_text(" ".join(found))
        self.assertGreater(good, 200)

    def test_words_at_random(self):
        draw = random.Random(263)
        words = ("n", "n", "2", "3", "+", "-", "-", "*", "//", "mod", ">>", "(", ")", "2", "//3", ">>2", "mod5")
        good = 0
        for _ in range(20000):
            good += self.check_text(draw.choice(("", " ")).join(draw.choices(words, k=draw.randint(3, 9))))
        self.assertGreater(good, 300)


class BesideGoingThroughPeriods(unittest.TestCase):
    def test_slopes_and_periods(self):
        less = 0
        for _, tree, text in texts(264, 300):
            slope, most = plain_slope(tree), tree_period(tree)
            heights = [tree_value(tree, n) for n in range(2 * most)]
            periods = [p for p in range(1, most + 1)
                       if all(heights[n + p] == heights[n] + slope * p for n in range(most))]
            self.assertEqual(slope_of(text), (slope.numerator, slope.denominator), text)
            self.assertEqual(period_of(text), periods[0], text)
            less += 1 < periods[0] < most
        self.assertGreater(less, 8)

    def test_straight_ones_and_bends(self):
        kinds = {True: 0, False: 0}
        for draw, tree, text in texts(265, 600, 5, (2, 3, 4, 5), 60):
            slope, period = plain_slope(tree), tree_period(tree)
            line = plain_line(tree)
            kinds[line is None] += 1
            bend = bend_of(text)
            self.assertEqual(bend is None, line is not None, text)
            if line is None:
                self.assertEqual(answer_of(formula_line, text), (NotStraight, {}), text)
                self.assertIs(is_bend(text, bend), True)
                self.assertIs(is_bend(text, (bend[1], bend[0])), True)
                i, j = bend
                self.assertIs(both_have(slope, ((i, tree_value(tree, i)), (j, tree_value(tree, j)))), False)
            else:
                self.assertEqual(formula_line(text), line, text)
                self.assertEqual(normal(line), line)
            for _ in range(12):
                i, j = draw.randint(-2 * period, 2 * period), draw.randint(-2 * period, 2 * period)
                fits = both_have(slope, ((i, tree_value(tree, i)), (j, tree_value(tree, j))))
                self.assertIs(is_bend(text, (i, j)), not fits, (text, i, j))
        self.assertGreater(min(kinds.values()), 70)

    def test_two_formulas(self):
        alike = later = 0
        found = list(texts(266, 260, 3, (1, 2, 3, 4), 24))
        for draw, tree, text in found[:40]:
            found.append((draw, ("+", tree, ("//", ("number", 1), 2)), "(" + text + ")+1//2"))
        for place, (draw, tree, text) in enumerate(found):
            near = found[place - 260] if place >= 260 else draw.choice(found[:260])
            for _, other, other_text in (near, draw.choice(found), found[place]):
                if len(text) > 200 or len(other_text) > 200:
                    continue
                # Behind the periods of both, the values are apart as soon as the slopes are unlike.
                period = lcm(tree_period(tree), tree_period(other))
                apart = [n for n in range(2 * period + 1) if tree_value(tree, n) != tree_value(other, n)]
                self.assertEqual(first_apart(text, other_text), min(apart, default=None), (text, other_text))
                self.assertIs(same_formulas(text, other_text), not apart, (text, other_text))
                alike += not apart
                later += bool(apart) and apart[0] > 1
        self.assertGreater(alike, 300)
        self.assertGreater(later, 20)

    def test_straight_ones(self):
        for text in STRAIGHT:
            self.assertIsNone(bend_of(text), text)
            line = formula_line(text)
            for n in NUMBERS:
                self.assertEqual(value(line, n), formula_value(text, n), (text, n))
            self.assertIs(same_formulas(text, line_words(line)), True)


class Reading(unittest.TestCase):
    def test_strengths(self):
        for text, expected in (
                ("1 + 2 * 3", 7), ("(1 + 2) * 3", 9), ("10 - 4 - 3", 3), ("10 - (4 - 3)", 9), ("100 // 7 // 2", 7),
                ("7 mod 4 * 5", 15), ("5 * 7 mod 4", 3), ("5 * (7 mod 4)", 15), ("1 + 9 >> 1", 5), ("1 + (9 >> 1)", 5),
                ("3 + 9 >> 1 >> 1", 3), ("-7 // 2", -4), ("-(7 // 2)", -3), ("-7 mod 4", 1), ("-(7 mod 4)", -3),
                ("- 3 * - 2", 6), ("--3", 3), ("---3", -3), ("-(-(3))", 3), ("2--3", 5), ("2---3", -1), ("2+-3", -1),
                ("2*-3", -6), ("2*--3", 6), ("8-6>>1", 1), ("8*3>>2", 6), ("-9>>1", -5), ("-(9>>1)", -4),
                ("2-3*4", -10), ("(2-3)*4", -4), ("20//3*2", 12), ("20//3mod4", 2), ("20mod7//2", 3), ("(1>>0)*6", 6)):
            self.assertEqual(formula_value(text, 0), expected, text)

    def test_n(self):
        for text, expected in (("n", -7), ("-n", 7), ("--n", -7), ("nmod5", 3), ("-nmod5", 2), ("n//2", -4),
                               ("-n//2", 3), ("n>>1", -4), ("3*n+1", -20), ("n*3-n", -14), ("(n+1)*(2-5)", 18),
                               ("n- -n", -14), ("n   mod   5", 3), ("( ( n ) )", -7), ("n mod 5 mod 2", 1),
                               ("7 * (n mod 5) * 2", 42)):
            self.assertEqual(formula_value(text, -7), expected, text)

    def test_no_formulas(self):
        for text in NO_FORMULAS:
            self.assertIs(is_formula(text), False, text)
            for function, more in ((formula_value, (3,)), (slope_of, ()), (period_of, ()), (formula_line, ()),
                                   (bend_of, ()), (is_bend, ((0, 1),)), (is_bend, (None,)), (same_formulas, ("n",)),
                                   (first_apart, ("n",))):
                self.assertEqual(answer_of(function, text, *more), (BadText, {}), (function, text))
            for function in (same_formulas, first_apart):
                self.assertEqual(answer_of(function, "n", text), (BadText, {}))

    def test_bounds(self):
        nines = "9" * 50
        for good, bad in (
                ("-" * 199 + "n", "-" * 200 + "n"), ("n" + " " * 197 + "+1", "n" + " " * 198 + "+1"),
                ("(" * 20 + "n" + ")" * 20, "(" * 21 + "n" + ")" * 21),
                ("(" * 20 + "n" + ")" * 20 + "+(n)", "(" * 20 + "n+(1)" + ")" * 20),
                ("(" * 19 + "(n)+(n)" + ")" * 19, "(" * 19 + "(n)+((n))" + ")" * 19),
                (nines, nines + "0"), ("n+" + nines, "n+1" + nines), ("n//" + nines, "n//9" + nines),
                ("n mod " + nines, "n mod 9" + nines), ("n>>300", "n>>301"), ("n>>300>>300", "n>>300>>301"),
                ("n>>0", "n>>1" + "0" * 60), ("n//1", "n//0"), ("n mod 1", "n mod 0"),
                ("(" + nines + "+" + nines + "+" + nines + ")*n" + "+1" * 21, "n" + "+1" * 100)):
            self.assertIs(is_formula(good), True, good)
            self.assertEqual(formula_value(good, 5), plain_value(plain_formula(good), 5))
            self.assertIs(is_formula(bad), False, bad)
            self.assertEqual(answer_of(formula_value, bad, 5), (BadText, {}))

    def test_things_of_all_kinds(self):
        for thing in (None, True, False, 0, 7, (), [], ("n",), ["n"], (("n",),), [["n"]], ("n", "+", "1")):
            self.assertIs(is_formula(thing), False, thing)
        text = "n mod 2"
        for thing in ((0, 1), (1, 0), (5, -4), (BOUND ** 3, 1)):
            self.assertIs(is_bend(text, thing), True, thing)
        for thing in ((0, 0), (0, 2), [0, 1], (0,), (0, 1, 2), (), (True, 0), (0, True), (False, 1), (0, None),
                      ("0", 1), (0, "1"), ((0,), 1), (0, (1,)), ((0, 1),), "01", "", None, True, False, 7, [],
                      [[0, 1]]):
            self.assertIs(is_bend(text, thing), False, thing)
            self.assertIs(is_bend("n // 2", thing), False, thing)
            self.assertEqual(answer_of(is_bend, "n //", thing), (BadText, {}))


class GreatNumbers(unittest.TestCase):
    def test_values(self):
        self.assertEqual(formula_value("n >> 300", 2 ** 301 + 5), 2)
        self.assertEqual(formula_value("n >> 300", -1), -1)
        self.assertEqual(formula_value("n mod 10000000000", -BOUND - 1), 9999999999)
        self.assertEqual(formula_value("(7 * n - 3) // 9", 9 * BOUND), 7 * BOUND - 1)

    def test_periods_of_ten_thousand(self):
        for text, slope, period, straight in (
                ("n // 10000", (1, 10000), 10000, True), ("n mod 10000", (0, 1), 10000, False),
                ("n // 100 // 100", (1, 10000), 10000, True), ("n mod 100 * 100 mod 100", (0, 1), 1, True),
                ("n // 5000 * 2", (1, 2500), 5000, False), ("n >> 13", (1, 8192), 8192, True),
                ("10 * (n mod 1000) mod 7 + n", (1, 1), 1000, False), ("n mod 99 // 99", (0, 1), 1, True),
                ("(9999 * n + 77) // 10000", (9999, 10000), 10000, True)):
            self.assertEqual((slope_of(text), period_of(text)), (slope, period), text)
            self.assertEqual(bend_of(text) is None, straight, text)
            if straight:
                line = formula_line(text)
                for n in (-BOUND, -1, 0, 9999, 10000, BOUND):
                    self.assertEqual(value(line, n), formula_value(text, n))
            else:
                self.assertIs(is_bend(text, bend_of(text)), True)

    def test_long_texts(self):
        text = "+".join(["n mod 2"] * 10 + ["(" + "3 * n" + ")"] * 14) + "-n//9"
        self.assertLessEqual(len(text), 200)
        self.assertEqual((slope_of(text), period_of(text)), ((377, 9), 18))
        text = "n" + "-n+n" * 40 + "//9973"
        self.assertEqual((slope_of(text), period_of(text)), ((1, 9973), 9973))

    def test_far_apart(self):
        self.assertEqual(first_apart("n", "n + n // 9999"), 9999)
        self.assertEqual(first_apart("n // 100", "(n + 1) // 100"), 99)
        self.assertEqual(first_apart("n mod 9999", "n"), 9999)
        self.assertEqual(first_apart("n // 97", "(n + 96) // 97"), 1)
        self.assertIsNone(first_apart("n // 97 // 97", "n // 97 // 97 * 1"))
        self.assertIs(same_formulas("n // 100", "n // 10 // 10"), True)
        self.assertIs(same_formulas("n // 100", "(n + 99) // 100"), False)

    def test_great_numbers_in_formulas(self):
        text = f"{BOUND} * n + n // 3 - {BOUND - 1}"
        self.assertEqual(slope_of(text), (3 * BOUND + 1, 3))
        self.assertEqual(formula_line(text), (3 * BOUND + 1, -3 * (BOUND - 1), 3))
        # The values are 0, 0, 2, 2 ..: the slope is 1, so only LINEs with n + b have it.
        self.assertIs(is_bend("n // 2 * 2", (BOUND + 1, BOUND)), True)
        self.assertIs(is_bend("n // 2 * 2", (BOUND + 1, -BOUND - 1)), False)
        self.assertIs(is_bend("n // 3 * 3", (BOUND + 1, BOUND - 2)), False)
        self.assertIs(is_bend("n // 3 * 3", (BOUND, BOUND + 1)), True)


class WrittenLines(unittest.TestCase):
    def test_line_words(self):
        draw = random.Random(267)
        for _ in range(200):
            line = drawn_line(draw, draw.choice((3, 50, BOUND)))
            a, b, d = line
            text = line_words(line)
            added = "- " + str(-b) if b < 0 else "+ " + str(b)
            self.assertEqual(text, "(" + str(a) + " * n " + added + ") // " + str(d))
            self.assertIs(is_formula(text), True)
            for n in (-9, 0, 4, BOUND):
                self.assertEqual(formula_value(text, n), value(line, n))
            if d <= 10 ** 4:
                self.assertEqual(formula_line(text), normal(line))
        great = 10 ** 50 - 1
        for line in ((great, great, great), (-great, -great, great), (0, 0, 1), (0, -1, great)):
            self.assertIs(is_formula(line_words(line)), True)


class Calls(unittest.TestCase):
    def test_names(self):
        for text in ("n mod 3 + n // 2", "n // 2", "n +"):
            check_ways(self, formula_value, text=text, n=7)
            for function in (slope_of, period_of, formula_line, bend_of):
                check_ways(self, function, text=text)
            check_ways(self, is_formula, plain=("thing",), thing=text)
            for thing in ((2, 3), 5):
                check_ways(self, is_bend, plain=("thing",), text=text, thing=thing)
            for other in ("n // 2", "n // 4 * 2", "("):
                for function in (same_formulas, first_apart):
                    check_ways(self, function, one=text, other=other)
        for line in ((17, 0, 8), (-1, -3, 2)):
            check_ways(self, line_words, line=line)
