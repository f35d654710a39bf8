"""LINEs, STRETCHes, TOLD values, ROWs and FRACTIONs written as texts, and read again."""

from math import gcd

from floorcorners.errors import BadText
from floorcorners.lines import is_line
from floorcorners.numerals import is_numeral
from floorcorners.told import is_told
from floorcorners.words import line_words


def line_text(line):
    """The LINE as a text."""
    return line_words(line)


def stretch_text(stretch):
    """The STRETCH as a text."""
    first, last = stretch
    return f"{first} .. {last}"


def told_text(told):
    """The TOLD values as a text."""
    return ", ".join([f"{n}: {number}" for n, number in told]) if told else "-"


def row_text(row):
    """The numbers as a text."""
    return " ".join([str(number) for number in row])


def fraction_text(fraction):
    """The FRACTION as a text."""
    top, bottom = fraction
    return f"{top}/{bottom}"


def line_read(text):
    """The LINE with this text; raises BadText() if there is none."""
    words = text.split(" ")
    if len(words) != 7 or words[3] not in ("+", "-"):
        raise BadText()
    a, d = _number_of(words[0][1:]), _number_of(words[6])
    b = _number_of(words[4][:-1])
    line = (a, -b if words[3] == "-" else b, d)
    # What else may be bent about the text shows in the text of the LINE.
    if not is_line(line) or line_text(line) != text:
        raise BadText()
    return line


def stretch_read(text):
    """The STRETCH with this text; raises BadText() if there is none."""
    first, last = _two_numbers(text, " .. ")
    if first > last:
        raise BadText()
    return (first, last)


def told_read(text):
    """The TOLD values with this text; raises BadText() if there are none."""
    if text == "-":
        return ()
    told = tuple([_two_numbers(part, ": ") for part in text.split(", ")])
    if not is_told(told):
        raise BadText()
    return told


def row_read(text):
    """The tuple of numbers with this text; raises BadText() if there is none."""
    return tuple([_number_of(word) for word in text.split(" ")])


def fraction_read(text):
    """The FRACTION with this text; raises BadText() if there is none."""
    top, bottom = _two_numbers(text, "/")
    if bottom < 1 or gcd(top, bottom) != 1:
        raise BadText()
    return (top, bottom)


def _number_of(word):
    if not is_numeral(word):
        raise BadText()
    return int(word)


def _two_numbers(text, between):
    """The pair of the two numbers of which the text is made, with this between them."""
    words = text.split(between)
    if len(words) != 2:
        raise BadText()
    return (_number_of(words[0]), _number_of(words[1]))
