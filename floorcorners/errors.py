"""The errors that the functions and methods of the package raise."""


class NoNumber(LookupError):
    """There is none with this number."""

    def __init__(self, number):
        self.number = number


class NothingDone(LookupError):
    """There is no deed that could be taken back."""


class NoLine(ValueError):
    """No LINE does what is asked for."""


class NotStraight(ValueError):
    """No LINE has the values of the FORMULA."""


class TooFew(ValueError):
    """There are too few of what is asked for."""


class BadText(ValueError):
    """The text says nothing of the kind that is asked for."""


class BadLine(ValueError):
    """The line with this number, counted from 0, is no request."""

    def __init__(self, number):
        self.number = number
