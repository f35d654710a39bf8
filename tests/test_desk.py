"""[19]: a desk."""

import random
import re
import unittest

from floorcorners.board import Board
from floorcorners.desk import is_request, replies
from floorcorners.errors import BadLine, NoLine, NothingDone
from floorcorners.lines import value
from floorcorners.pieces import serves_to
from floorcorners.sums import how_many_same, sum_of
from tests.plain import BOUND, drawn_line
from tests.ways import answer_of, check_ways

KINDS = {
    "tell": "nn", "undo": "", "forget": "n", "told": "", "line": "", "guess": "n", "can": "n", "sure": "n", "may": "nn",
    "has": "l", "value": "ln", "sum": "ls", "same": "lls", "count": "lls", "reach": "lls",
}
SIGNS = "0123456789- \nabcdefghilmnorstuvy"


def drawn_request(draw):
    """A request of any kind, mostly about numbers near 0."""
    name = draw.choice(("tell", "tell", "tell", "tell", "can", *KINDS))
    numbers = []
    for kind in KINDS[name]:
        if kind == "n":
            numbers.append(draw.randint(-5, 5) if draw.random() < 0.95 else draw.randint(-BOUND, BOUND))
        elif kind == "l":
            numbers += drawn_line(draw, draw.choice((3, 9)))
        else:
            first = draw.randint(-20, 20)
            numbers += [first, first + draw.choice((0, 3, 30))]
    if name == "tell":
        numbers[1] = numbers[0] * 2 // 5 + draw.choice((0, 0, 0, 0, 1))
    return " ".join([name] + [str(number) for number in numbers])


def plain_request(text):
    """Whether the text is a request, by a pattern."""
    pieces = {"n": " (0|-?[1-9][0-9]*)"}
    pieces["l"] = pieces["n"] * 2 + " ([1-9][0-9]*)"
    pieces["s"] = " (?P<first>0|-?[1-9][0-9]*) (?P<last>0|-?[1-9][0-9]*)"
    name = text.split(" ")[0]
    if name not in KINDS:
        return False
    found = re.fullmatch(name + "".join([pieces[kind] for kind in KINDS[name]]), text)
    return found is not None and ("s" not in KINDS[name] or int(found["first"]) <= int(found["last"]))


def dash(number):
    return "-" if number is None else str(number)


def plain_reply(board, request):
    """The reply, the Board led deed by deed."""
    name, *words = request.split(" ")
    numbers = [int(word) for word in words]
    if name == "tell":
        kind, _ = answer_of(board.tell, *numbers)
        return "refused NoLine" if kind is NoLine else "done"
    if name == "undo":
        kind, _ = answer_of(board.undo)
        return "refused NothingDone" if kind is NothingDone else "done"
    if name == "forget":
        return dash(board.forget(*numbers))
    if name == "told":
        return ", ".join([f"{n} {number}" for n, number in board.told()]) or "-"
    if name == "line":
        return " ".join([str(number) for number in board.line()])
    if name == "guess":
        return str(board.guess(*numbers))
    if name in ("can", "sure", "may"):
        least, greatest = board.can_be(numbers[0])
        if name == "can":
            return dash(least) + " to " + dash(greatest)
        if name == "sure":
            return str(least) if least is not None and least == greatest else "?"
        return "yes" if least is None or least <= numbers[1] <= greatest else "no"
    return plain_answer(board, name, numbers)


def plain_answer(board, name, numbers):
    """The reply to a request with LINEs."""
    line, stretch = tuple(numbers[:3]), tuple(numbers[-2:])
    if name == "has":
        return "yes" if all(value(line, n) == number for n, number in board.told()) else "no"
    if name == "value":
        return str(value(line, numbers[3]))
    if name == "sum":
        return str(sum([value(line, n) for n in range(stretch[0], stretch[1] + 1)]))
    other = tuple(numbers[3:6])
    same = [value(line, n) == value(other, n) for n in range(stretch[0], stretch[1] + 1)]
    if name == "same":
        return "yes" if all(same) else "no"
    if name == "count":
        return str(same.count(True))
    if not same[0]:
        return "-"
    return str(stretch[1] if all(same) else stretch[0] + same.index(False) - 1)


class Examples(unittest.TestCase):
    def test_a_board_that_is_told(self):
        self.assertEqual(
            replies("tell 0 0\ntell 2 1\ntell 4 1\ncan 3\ncan 6\nsure 2\nsure 3\nsure 6\nforget 2\ncan 2\nundo\ncan 2\n"
                    "told"),
            ['done', 'done', 'done', '1 to 1', '1 to 2', '1', '1', '?', '1', '0 to 1', 'done', '1 to 1',
             '0 0, 2 1, 4 1'])

    def test_what_is_refused(self):
        self.assertEqual(
            replies("can 7\ntold\nundo\nforget 3\ntell 0 0\ntell 2 1\ntell 4 1\ntell 6 3\ntell 2 2\nmay 6 2\nmay 6 3\n"
                    "has 1 2 4\nhas 1 0 3\nundo\ntold"),
            ['- to -', '-', 'refused NothingDone', '-', 'done', 'done', 'done', 'refused NoLine', 'refused NoLine',
             'yes', 'no', 'yes', 'no', 'done', '0 0, 2 1'])

    def test_lines(self):
        self.assertEqual(
            replies("value 153 2 5 11\nsum 1 0 3 0 8\nsame 1 0 3 11 0 32 0 31\nsame 1 0 3 11 0 32 0 32\n"
                    "count 1 0 3 5 0 16 0 10\nreach 1 0 3 11 0 32 0 99\nreach 1 0 3 5 0 16 3 9\nline\nguess 5"),
            ['337', '9', 'yes', 'no', '8', '31', '-', '0 0 1', '0'])

    def test_requests(self):
        self.assertEqual(
            (is_request("tell 1 -2"), is_request("tell 1"), is_request("tell 01 2"), is_request("has 1 2 0"),
             is_request("sum 1 0 3 8 0"), is_request("undo "), replies("")),
            (True, False, False, False, False, False, []))

    def test_bad_line(self):
        with self.assertRaises(BadLine) as caught:
            replies("told\ntell 1")
        self.assertEqual(caught.exception.number, 1)


class Requests(unittest.TestCase):
    def test_all_kinds_right_and_bent(self):
        draw = random.Random(291)
        right, kinds = 0, set()
        for _ in range(600):
            request = drawn_request(draw)
            kinds.add(request.split(" ")[0])
            self.assertIs(is_request(request), True, request)
            self.assertIs(plain_request(request), True, request)
            for _ in range(12):
                at, more = draw.randrange(len(request) + 1), draw.choice(SIGNS)
                for bent in (request[:at] + more + request[at:], request[:at] + request[at + 1:],
                             request[:at] + more + request[at + 1:], request[:at + 1] + request[at:]):
                    right += is_request(bent)
                    self.assertIs(is_request(bent), plain_request(bent), bent)
        self.assertEqual(kinds, set(KINDS))
        self.assertGreater(right, 5000)

    def test_how_many_numbers(self):
        for name in KINDS:
            for many in range(12):
                for number in ("1", "0", "-1"):
                    request = " ".join([name] + [number] * many)
                    self.assertIs(is_request(request), plain_request(request), request)
        for name in ("", " ", "Tell", "TELL", "tells", "tel", "forge", "new", "can't", "quit", "reaches"):
            for more in ("", " 1", " 1 1"):
                self.assertIs(is_request(name + more), False)

    def test_signs_that_do_not_belong(self):
        for request in ("tell 1  2", " tell 1 2", "tell 1 2 ", "tell  1 2", "tell\t1 2", "tell 1 2\n", "\ntell 1 2",
                        "tell 1,2", "tell 1 +2", "tell 1 -0", "tell 00 1", "tell 1 02", "tell - 1 2", "tell 1 --2",
                        "tell 1 2.0", "tell 1 1e3", "tell 1 0x1", "tell 1_0 2", "tell a b", "undo 1", "undo\n",
                        "told -", "line line", "undo undo", "tell 1 2\ntell 1 2", "tell 1 \u0662", "tell 1\u00a02",
                        "has 1 2 -3", "value 1 2 0 1", "same 1 0 3 1 0 0 0 5", "same 1 0 0 1 0 3 0 5",
                        "count 1 0 3 1 0 3 5 4", "reach 1 0 3 1 0 3 0 -1", "sum 1 0 -1 0 5", ""):
            self.assertIs(is_request(request), False, request)
        for request in ("sum 1 0 3 4 4", "has 0 0 1", "tell 0 0", "tell -1 -1", "same 1 0 3 1 0 3 -5 -5",
                        f"tell {BOUND} {-BOUND}", "reach 0 0 1 0 0 1 0 0"):
            self.assertIs(is_request(request), True, request)

    def test_four_hundred_signs(self):
        for many, expected in ((392, True), (393, True), (394, False), (900, False)):
            request = "guess -" + "1" * many
            self.assertEqual(len(request) <= 400, expected)
            self.assertIs(is_request(request), expected)

    def test_things_of_all_kinds(self):
        for thing in (None, True, False, 0, 7, (), [], ("undo",), ["undo"], ("tell", 1, 2), [["tell 1 2"]], ((),)):
            self.assertIs(is_request(thing), False, thing)


class Replies(unittest.TestCase):
    def test_beside_a_board_that_is_led_deed_by_deed(self):
        draw = random.Random(292)
        refused = {"refused NoLine": 0, "refused NothingDone": 0}
        for _ in range(250):
            requests = [drawn_request(draw) for _ in range(draw.choice((1, 5, 25, 60)))]
            board = Board()
            expected = [plain_reply(board, request) for request in requests]
            found = replies("\n".join(requests))
            self.assertEqual(found, expected, requests)
            for reply in refused:
                refused[reply] += found.count(reply)
        self.assertGreater(min(refused.values()), 30, refused)

    def test_great_numbers(self):
        line, other = (BOUND - 1, -7, BOUND), (1, -1, 1)
        words = " ".join([str(number) for number in line + other])
        stretch = (-BOUND, BOUND)
        self.assertEqual(
            replies(f"count {words} {stretch[0]} {stretch[1]}\nreach {words} 5 {BOUND}\nsum {words[:-7]} 0 {BOUND}\n"
                    f"tell {BOUND} {BOUND}\ntell 0 0\ncan 1\nguess 17\nsure {BOUND - 1}"),
            [str(how_many_same(line, other, stretch)), dash(serves_to(line, other, (5, BOUND))),
             str(sum_of(line, (0, BOUND))), "done", "done", "1 to 1", "17", str(BOUND - 1)])

    def test_each_text_has_a_new_board(self):
        self.assertEqual(replies("tell 0 5\ntold"), ["done", "0 5"])
        self.assertEqual(replies("told\nundo"), ["-", "refused NothingDone"])

    def test_refused_requests_change_nothing(self):
        self.assertEqual(
            replies("tell 0 0\ntell 4 4\ntell 2 5\ntold\nundo\ntold\nundo\nundo\nundo\ntold"),
            ["done", "done", "refused NoLine", "0 0, 4 4", "done", "0 0", "done", "refused NothingDone",
             "refused NothingDone", "-"])

    def test_deeds_that_change_nothing(self):
        self.assertEqual(
            replies("tell 1 1\ntell 1 1\nforget 5\nundo\nundo\ntold\nundo\ntold\nundo"),
            ["done", "done", "-", "done", "done", "1 1", "done", "-", "refused NothingDone"])

    def test_few_told_values(self):
        self.assertEqual(
            replies("sure 3\nmay 3 9\nhas 7 7 7\ntell 3 9\nsure 3\nsure 4\nmay 3 9\nmay 3 8\nmay 4 -100\ncan 3\ncan 4\n"
                    "line\nhas 0 9 1\nhas 0 8 1\nforget 3\nforget 3"),
            ["?", "yes", "yes", "done", "9", "?", "yes", "no", "yes", "9 to 9", "- to -", "0 9 1", "yes", "no", "9",
             "-"])

    def test_numbers_below_0_and_0(self):
        self.assertEqual(
            replies("tell -3 0\ntell 0 -2\ntold\nforget 0\nforget -3\nguess -5\nvalue -1 0 2 1\nsum -1 0 2 -1 1"),
            ["done", "done", "-3 0, 0 -2", "-2", "0", "0", "-1", "-1"])

    def test_the_first_bad_line(self):
        for text, number in (("\n", 0), ("told\n", 1), ("\ntold", 0), ("told\n\ntold", 1), ("undo\nundo\nundo\n", 3),
                             ("undo\ntell 0 0\ntell 0 1\nbad\nworse", 3), ("tell 1\ntell 2", 0), (" ", 0),
                             ("told\n ", 1), ("undo \nundo", 0), ("undo\nsum 1 0 3 8 0\n", 1), ("told\r\ntold", 0),
                             ("bad", 0), ("\n".join(["told"] * 59 + ["tol"]), 59)):
            self.assertEqual(answer_of(replies, text), (BadLine, {"number": number}), text)
        self.assertEqual(replies(""), [])


class Calls(unittest.TestCase):
    def test_names_and_new_lists(self):
        for text in ("tell 0 0\nundo\nundo\ntold", "", "told\n"):
            check_ways(self, replies, text=text)
        for thing in ("tell 1 2", "tell 1", 5, ("undo",)):
            check_ways(self, is_request, plain=("thing",), thing=thing)
