"""Numbers in decimal digits, without needless noughts."""

DIGITS = "0123456789"


def end_of_digits(text, at):
    """The place behind the digits that stand from this place on; this place if none do."""
    while at < len(text) and text[at] in DIGITS:
        at += 1
    return at


def is_digits(word):
    """Whether the word is a number from 0 on."""
    if word == "" or end_of_digits(word, 0) < len(word):
        return False
    return word == "0" or word[0] != "0"


def is_numeral(word):
    """Whether the word is a number, with - ahead if it is below 0."""
    if word.startswith("-"):
        return is_digits(word[1:]) and word != "-0"
    return is_digits(word)
