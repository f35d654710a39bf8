"""FORMULAs read into steps, and done by them.

A step is a pair (word, number): "n" and "number" put a side on a pile, "turn", "//" and "mod" change the topmost one,
"+", "-" and "*" put one in the place of the two topmost ones.
"""

from math import gcd, lcm

from floorcorners.errors import BadText
from floorcorners.numerals import end_of_digits, is_digits

MOST_SIGNS = 200
MOST_DEEP = 20
MOST_DIGITS = 50
MOST_SHIFT = 300


class Reader:
    """Goes through the words of a FORMULA and keeps the steps.

    What reads a part of it, from a bracket to all of it, tells whether n is in this part.
    """

    def __init__(self, words):
        self.words = words
        self.at = 0
        self.deep = 0
        self.steps = []

    def word(self):
        """The next word; "" behind the last one."""
        return self.words[self.at] if self.at < len(self.words) else ""

    def take_word(self):
        """The next word, left behind."""
        word = self.word()
        self.at += 1
        return word

    def take_number(self):
        """The next word, which has to be a number, left behind."""
        word = self.take_word()
        if not is_digits(word) or len(word) > MOST_DIGITS:
            raise BadText()
        return int(word)

    def read_all(self):
        """What stands in a bracket, or all there is: a sum, shifted."""
        has_n = self.read_sum()
        while self.word() == ">>":
            self.at += 1
            shift = self.take_number()
            if shift > MOST_SHIFT:
                raise BadText()
            self.steps.append(("//", 1 << shift))
        return has_n

    def read_sum(self):
        """Products, added and taken away."""
        has_n = self.read_product()
        while self.word() in ("+", "-"):
            sign = self.take_word()
            other_has_n = self.read_product()
            has_n = has_n or other_has_n
            self.steps.append((sign, 0))
        return has_n

    def read_product(self):
        """Sides, multiplied and divided."""
        has_n = self.read_side()
        while self.word() in ("*", "//", "mod"):
            sign = self.take_word()
            if sign == "*":
                other_has_n = self.read_side()
                if has_n and other_has_n:
                    raise BadText()
                has_n = has_n or other_has_n
                self.steps.append((sign, 0))
            else:
                divisor = self.take_number()
                if divisor < 1:
                    raise BadText()
                self.steps.append((sign, divisor))
        return has_n

    def read_side(self):
        """n, a number or a bracket, with any - ahead."""
        turns = 0
        while self.word() == "-":
            self.at += 1
            turns += 1
        has_n = self.word() == "n"
        if has_n:
            self.at += 1
            self.steps.append(("n", 0))
        elif self.word() == "(":
            has_n = self.read_bracket()
        else:
            self.steps.append(("number", self.take_number()))
        if turns & 1:
            self.steps.append(("turn", 0))
        return has_n

    def read_bracket(self):
        """A bracket and what is in it."""
        self.at += 1
        self.deep += 1
        if self.deep > MOST_DEEP:
            raise BadText()
        has_n = self.read_all()
        if self.take_word() != ")":
            raise BadText()
        self.deep -= 1
        return has_n


def steps_of(text):
    """The list of the steps of the FORMULA; raises BadText() if the text is none."""
    if len(text) > MOST_SIGNS or text.startswith(" ") or text.endswith(" "):
        raise BadText()
    reader = Reader(_words_of(text))
    reader.read_all()
    if reader.word() != "":
        raise BadText()
    return reader.steps


def _words_of(text):
    """The list of the words of the text, blanks left out; raises BadText() where there is none."""
    words = []
    at = 0
    while at < len(text):
        if text[at] == " ":
            at += 1
        else:
            end = _end_of_word(text, at)
            words.append(text[at:end])
            at = end
    return words


def _end_of_word(text, at):
    """The place behind the word that begins at this place."""
    end = end_of_digits(text, at)
    if end > at:
        return end
    for word in ("//", ">>", "mod", "n", "+", "-", "*", "(", ")"):
        if text[at:at + len(word)] == word:
            return at + len(word)
    raise BadText()


def worths(steps, numbers):
    """The list of the values of the FORMULA at these numbers."""
    pile = []
    for word, number in steps:
        if word == "n":
            pile.append(list(numbers))
        elif word == "number":
            pile.append([number] * len(numbers))
        elif word == "turn":
            pile.append([-height for height in pile.pop()])
        elif word == "//":
            pile.append([height // number for height in pile.pop()])
        elif word == "mod":
            pile.append([height % number for height in pile.pop()])
        else:
            right = pile.pop()
            pile.append(_joined(word, pile.pop(), right))
    return pile[0]


def period_and_growth(steps):
    """A period of the FORMULA, and by how much its values grow over this."""
    pile = []
    for word, number in steps:
        if word == "n":
            pile.append((1, 1, 0))
        elif word == "number":
            pile.append((1, 0, number))
        elif word == "turn":
            period, growth, start = pile.pop()
            pile.append((period, -growth, -start))
        elif word in ("//", "mod"):
            pile.append(_growth_divided(word, pile.pop(), number))
        else:
            right = pile.pop()
            pile.append(_growth_joined(word, pile.pop(), right))
    return (pile[0][0], pile[0][1])


def _joined(sign, left, right):
    """Two lists of numbers, one by one added, taken away or multiplied."""
    if sign == "+":
        return [one + other for one, other in zip(left, right)]
    if sign == "-":
        return [one - other for one, other in zip(left, right)]
    return [one * other for one, other in zip(left, right)]


def _growth_divided(word, side, number):
    """A period, the growth over it and the value at 0 of what has these three, divided; or of the rest."""
    period, growth, start = side
    # Over so many periods the growth is a multiple of the number.
    times = number // gcd(number, growth)
    if word == "mod":
        return (period * times, 0, start % number)
    return (period * times, growth * times // number, start // number)


def _growth_joined(sign, left, right):
    """A period, the growth over it and the value at 0 of two sides, which have these three, joined by the sign."""
    period = lcm(left[0], right[0])
    growth, start = period // left[0] * left[1], left[2]
    other_growth, other_start = period // right[0] * right[1], right[2]
    if sign == "+":
        return (period, growth + other_growth, start + other_start)
    if sign == "-":
        return (period, growth - other_growth, start - other_start)
    # One of the sides has no n in it: it does not grow, and has the value at 0 everywhere.
    return (period, growth * other_start + other_growth * start, start * other_start)
