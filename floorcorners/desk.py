"""A desk: texts whose lines are requests, put to a Board one behind another."""

from floorcorners.board import Board
from floorcorners.compare import same_on
from floorcorners.errors import BadLine, NoLine, NothingDone
from floorcorners.lines import is_line, value
from floorcorners.numerals import is_numeral
from floorcorners.opened import can_be, sure_value
from floorcorners.pieces import serves_to
from floorcorners.sums import how_many_same, sum_of
from floorcorners.told import is_line_for

MOST_SIGNS = 400
# What stands behind the first word of a request: numbers, LINEs of three numbers, STRETCHes of two.
SHAPES = {
    "tell": ("number", "number"),
    "undo": (),
    "forget": ("number",),
    "told": (),
    "line": (),
    "guess": ("number",),
    "can": ("number",),
    "sure": ("number",),
    "may": ("number", "number"),
    "has": ("line",),
    "value": ("line", "number"),
    "sum": ("line", "stretch"),
    "same": ("line", "line", "stretch"),
    "count": ("line", "line", "stretch"),
    "reach": ("line", "line", "stretch"),
}
LENGTHS = {"number": 1, "stretch": 2, "line": 3}


def is_request(thing):
    """Whether thing is a string of at most 400 signs that is a request."""
    return isinstance(thing, str) and len(thing) <= MOST_SIGNS and _read(thing) is not None


def replies(text):
    """The list of the replies to the lines of the text; raises BadLine(number) for the first that is no request."""
    if text == "":
        return []
    requests = [_read(request) for request in text.split("\n")]
    for number, request in enumerate(requests):
        if request is None:
            raise BadLine(number)
    board = Board()
    return [_reply(board, name, parts) for name, parts in requests]


def _read(request):
    """The name of a request and the list of the numbers, LINEs and STRETCHes behind it; None if it is no request."""
    name, *words = request.split(" ")
    shape = SHAPES.get(name)
    if shape is None or not all([is_numeral(word) for word in words]):
        return None
    if len(words) != sum([LENGTHS[kind] for kind in shape]):
        return None
    numbers = [int(word) for word in words]
    parts = []
    for kind in shape:
        part, numbers = tuple(numbers[:LENGTHS[kind]]), numbers[LENGTHS[kind]:]
        if (kind == "line" and not is_line(part)) or (kind == "stretch" and part[0] > part[1]):
            return None
        parts.append(part[0] if kind == "number" else part)
    return (name, parts)


def _tell(board, n, number):
    board.tell(n, number)
    return "done"


def _undo(board):
    board.undo()
    return "done"


def _forget(board, n):
    return _or_dash(board.forget(n))


def _told(board):
    return ", ".join([f"{n} {number}" for n, number in board.told()]) if len(board) else "-"


def _line(board):
    a, b, d = board.line()
    return f"{a} {b} {d}"


def _guess(board, n):
    return str(board.guess(n))


def _can(board, n):
    least, greatest = board.can_be(n)
    return f"{_or_dash(least)} to {_or_dash(greatest)}"


def _sure(board, n):
    number = sure_value(board.told(), n)
    return "?" if number is None else str(number)


def _may(board, n, number):
    return _yes_or_no(can_be(board.told(), n, number))


def _has(board, line):
    return _yes_or_no(is_line_for(board.told(), line))


def _value(_, line, n):
    return str(value(line, n))


def _sum(_, line, stretch):
    return str(sum_of(line, stretch))


def _same(_, line, other, stretch):
    return _yes_or_no(same_on(line, other, stretch))


def _count(_, line, other, stretch):
    return str(how_many_same(line, other, stretch))


def _reach(_, line, other, stretch):
    return _or_dash(serves_to(line, other, stretch))


def _or_dash(number):
    return "-" if number is None else str(number)


def _yes_or_no(holds):
    return "yes" if holds else "no"


ACTIONS = {
    "tell": _tell, "undo": _undo, "forget": _forget, "told": _told, "line": _line, "guess": _guess, "can": _can,
    "sure": _sure, "may": _may, "has": _has, "value": _value, "sum": _sum, "same": _same, "count": _count,
    "reach": _reach,
}


def _reply(board, name, parts):
    """The reply to the request that is put to the Board."""
    action = ACTIONS[name]
    try:
        return action(board, *parts)
    except NoLine:
        return "refused NoLine"
    except NothingDone:
        return "refused NothingDone"
