"""Boards, to which values are told one by one, and from which they are taken back."""

from floorcorners.errors import NoLine, NothingDone
from floorcorners.lines import value
from floorcorners.opened import value_range
from floorcorners.told import can_fit, line_for


class Board:
    """TOLD values that some LINE always has, and the deeds that can be taken back."""

    def __init__(self):
        self._told = ()
        # The TOLD values ahead of each deed.
        self._past = []

    def told(self):
        """The TOLD values."""
        return self._told

    def line(self):
        """A LINE that has all TOLD values."""
        return line_for(self._told)

    def guess(self, n):
        """The value at n of this LINE."""
        return value(self.line(), n)

    def can_be(self, n):
        """The least and the greatest value at n of the LINEs with the TOLD values; None for an endless one."""
        return value_range(self._told, n)

    def tell(self, n, number):
        """The value of n is number; raises NoLine() if no LINE has all values then."""
        if (n, number) in self._told:
            self._do(self._told)
            return
        told = tuple(sorted(self._told + ((n, number),)))
        if n in self or not can_fit(told):
            raise NoLine()
        self._do(told)

    def forget(self, n):
        """The value of n is told no longer; returns it, None if it was not told."""
        found = [number for m, number in self._told if m == n]
        self._do(tuple([pair for pair in self._told if pair[0] != n]))
        return found[0] if found else None

    def undo(self):
        """Takes back the last deed; raises NothingDone() if there is none."""
        if not self._past:
            raise NothingDone()
        self._told = self._past.pop()

    def deeds(self):
        """How many deeds can be taken back."""
        return len(self._past)

    def twin(self):
        """A new Board with the same TOLD values and the same deeds to take back."""
        other = Board()
        other._told = self._told
        other._past = list(self._past)
        return other

    def __len__(self):
        return len(self._told)

    def __contains__(self, n):
        return n in [m for m, _ in self._told]

    def __eq__(self, other):
        return isinstance(other, Board) and self._told == other._told

    def _do(self, told):
        """A deed, behind which these are the TOLD values."""
        self._past.append(self._told)
        self._told = told
