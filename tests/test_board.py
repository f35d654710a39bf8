"""[17] and [1] (f): Boards."""

import inspect
import random
import unittest

from floorcorners.board import Board
from floorcorners.errors import NoLine, NothingDone
from floorcorners.lines import value
from floorcorners.opened import value_range
from floorcorners.told import can_fit, is_line_for, line_for
from tests.plain import BOUND, drawn_line
from tests.test_opened import plain_range
from tests.test_told import plain_fit, plain_lines
from tests.ways import answer_of


def told_board(*pairs):
    board = Board()
    for n, number in pairs:
        board.tell(n, number)
    return board


def state_of(board):
    return (board.told(), len(board), board.deeds(), board.line())


class PlainBoard:
    """A list of all TOLD values that there were, as dicts, one behind another."""

    def __init__(self, past=({},)):
        self.past = [dict(told) for told in past]

    def told(self):
        return tuple(sorted(self.past[-1].items()))

    def tell(self, n, number):
        """Whether it is taken."""
        told = self.past[-1]
        new = {**told, n: number}
        if told.get(n, number) != number or not plain_fit(tuple(sorted(new.items()))):
            return False
        self.past.append(new)
        return True

    def forget(self, n):
        told = self.past[-1]
        self.past.append({m: number for m, number in told.items() if m != n})
        return told.get(n)

    def undo(self):
        """Whether there is something to undo."""
        if len(self.past) == 1:
            return False
        self.past.pop()
        return True


class Examples(unittest.TestCase):
    def test_a_board(self):
        board = Board()
        self.assertEqual(
            (board.can_be(5), board.tell(0, 0), board.tell(2, 1), board.tell(4, 1), board.told(), len(board),
             2 in board, board.deeds()),
            ((None, None), None, None, None, ((0, 0), (2, 1), (4, 1)), 3, True, 3))
        self.assertEqual(
            (value(board.line(), 2), board.guess(4), board.can_be(3), board.can_be(6), board.forget(2), board.can_be(2),
             board.undo(), board.can_be(2)),
            (1, 1, (1, 1), (1, 2), 1, (0, 1), None, (1, 1)))
        with self.assertRaises(NoLine):
            board.tell(6, 3)
        self.assertEqual(
            (board.told() == board.twin().told(), board == board.twin(), board == Board(), board.forget(9),
             board.deeds()),
            (True, True, False, None, 4))


class BesideAPlainList(unittest.TestCase):
    def test_rows_of_deeds(self):
        draw = random.Random(281)
        counts = {"told": 0, "refused": 0, "forgot": 0, "undone": 0, "nothing": 0, "twins": 0}
        for _ in range(120):
            board, plain = Board(), PlainBoard()
            line = drawn_line(draw, draw.choice((2, 5, 9)))
            others = []
            for _ in range(draw.randint(1, 18)):
                self.do_one(draw, line, board, plain, counts)
                self.check(draw, board, plain)
                if draw.random() < 0.1:
                    others.append((board.twin(), PlainBoard(plain.past)))
                if others and draw.random() < 0.3:
                    counts["twins"] += 1
                    self.do_one(draw, line, *draw.choice(others), counts)
            for other, other_plain in others:
                self.check(draw, other, other_plain)
        self.assertGreater(min(counts.values()), 20, counts)

    def do_one(self, draw, line, board, plain, counts):
        kind = draw.choice(("tell", "tell", "tell", "tell", "forget", "undo"))
        n = draw.randint(-4, 4)
        if kind == "tell":
            number = value(line, n) + draw.choice((0, 0, 0, 0, 1, -1))
            before = state_of(board)
            if plain.tell(n, number):
                counts["told"] += 1
                self.assertIsNone(board.tell(n, number))
            else:
                counts["refused"] += 1
                self.assertEqual(answer_of(board.tell, n, number), (NoLine, {}))
                self.assertEqual(state_of(board), before)
        elif kind == "forget":
            counts["forgot"] += 1
            self.assertEqual(board.forget(n), plain.forget(n))
        elif plain.undo():
            counts["undone"] += 1
            self.assertIsNone(board.undo())
        else:
            counts["nothing"] += 1
            self.assertEqual(answer_of(board.undo), (NothingDone, {}))
            self.assertEqual(state_of(board), ((), 0, 0, (0, 0, 1)))

    def check(self, draw, board, plain):
        told = plain.told()
        self.assertEqual(board.told(), told)
        self.assertEqual((len(board), board.deeds()), (len(told), len(plain.past) - 1))
        self.assertEqual([n in board for n in range(-5, 6)], [n in dict(told) for n in range(-5, 6)])
        line = board.line()
        self.assertEqual(line, line_for(told))
        self.assertIs(is_line_for(told, line), True)
        if len(told) > 1:
            # Of all LINEs that have them, this one has the least d, then a nearest to 0, then the least b.
            self.assertEqual([found for d in range(1, line[2]) for found in plain_lines(told, d)], [])
            fitting = plain_lines(told, line[2])
            self.assertEqual(line, min(fitting, key=lambda found: (abs(found[0]), found[1])))
        n = draw.randint(-9, 9)
        self.assertEqual(board.guess(n), value(line, n))
        if len(told) > 1:
            self.assertEqual(board.can_be(n), plain_range(told, n))
        else:
            self.assertEqual(board.can_be(n), (dict(told).get(n), dict(told).get(n)))


class Deeds(unittest.TestCase):
    def test_what_changes_nothing_is_a_deed(self):
        board = told_board((0, 0), (2, 1))
        self.assertIsNone(board.tell(2, 1))
        self.assertIsNone(board.forget(7))
        self.assertEqual((board.told(), board.deeds()), (((0, 0), (2, 1)), 4))
        for left in (3, 2):
            self.assertIsNone(board.undo())
            self.assertEqual((board.told(), board.deeds()), (((0, 0), (2, 1)), left))
        board.undo()
        self.assertEqual((board.told(), board.deeds()), (((0, 0),), 1))

    def test_what_is_refused_is_no_deed(self):
        board = told_board((0, 0), (2, 1), (4, 1))
        for n, number in ((6, 3), (2, 0), (2, 2), (0, 1), (3, 0), (3, 2), (100, 51), (BOUND, BOUND)):
            with self.assertRaises(NoLine):
                board.tell(n, number)
            self.assertEqual(state_of(board), (((0, 0), (2, 1), (4, 1)), 3, 3, (1, 1, 3)))
        board.undo()
        with self.assertRaises(NoLine):
            board.tell(2, 2)
        self.assertEqual((board.told(), board.deeds()), (((0, 0), (2, 1)), 2))

    def test_undo_of_each(self):
        board = told_board((5, 5))
        board.tell(3, 3)
        board.forget(5)
        self.assertEqual(board.told(), ((3, 3),))
        board.undo()
        self.assertEqual(board.told(), ((3, 3), (5, 5)))
        board.undo()
        self.assertEqual(board.told(), ((5, 5),))
        board.undo()
        for _ in range(2):
            with self.assertRaises(NothingDone):
                board.undo()
            self.assertEqual((board.told(), board.deeds(), len(board)), ((), 0, 0))
        board.tell(1, 1)
        self.assertEqual((board.told(), board.deeds()), (((1, 1),), 1))

    def test_forgotten_ones_can_be_told_in_another_way(self):
        board = told_board((0, 0), (2, 1))
        self.assertEqual(board.forget(2), 1)
        self.assertIs(2 in board, False)
        board.tell(2, 9)
        self.assertEqual((board.told(), board.guess(2)), (((0, 0), (2, 9)), 9))
        self.assertEqual((board.forget(0), board.forget(0)), (0, None))
        self.assertEqual((board.told(), board.deeds()), (((2, 9),), 6))

    def test_twins(self):
        board = told_board((0, 0), (2, 1))
        twin = board.twin()
        self.assertIsInstance(twin, Board)
        self.assertIsNot(twin, board)
        board.tell(4, 1)
        self.assertEqual((twin.told(), twin.deeds()), (((0, 0), (2, 1)), 2))
        twin.undo()
        twin.undo()
        with self.assertRaises(NothingDone):
            twin.undo()
        self.assertEqual((board.told(), board.deeds()), (((0, 0), (2, 1), (4, 1)), 3))
        board.undo()
        self.assertEqual((board.told(), twin.told()), (((0, 0), (2, 1)), ()))
        self.assertEqual(Board().twin(), Board())

    def test_forty_values_and_sixty_deeds(self):
        line = (153, 2, 5)
        board = Board()
        for place in range(40):
            n = place * 17 % 40 - 20
            board.tell(n, value(line, n))
        for n in range(20):
            self.assertEqual(board.forget(n - 20), value(line, n - 20))
        told = tuple([(n, value(line, n)) for n in range(20)])
        self.assertEqual((board.told(), len(board), board.deeds()), (told, 20, 60))
        self.assertEqual([board.guess(n) for n in range(20)], [value(line, n) for n in range(20)])
        for _ in range(60):
            board.undo()
        self.assertEqual(board, Board())

    def test_great_numbers(self):
        line = (10 ** 39 + 7, -5, 10 ** 38 + 9)
        numbers = (BOUND, -BOUND, 0, 10 ** 20, 1)
        board = told_board(*[(n, value(line, n)) for n in numbers])
        told = tuple(sorted([(n, value(line, n)) for n in numbers]))
        self.assertEqual(board.told(), told)
        self.assertIs(is_line_for(told, board.line()), True)
        for n in (2, BOUND - 1, 3 * 10 ** 39):
            self.assertEqual(board.can_be(n), value_range(told, n))
            self.assertEqual(board.can_be(n), plain_range(told, n))
        self.assertIs(can_fit(told + ((BOUND + 1, value(line, BOUND) + 12),)), False)
        with self.assertRaises(NoLine):
            board.tell(BOUND + 1, value(line, BOUND) + 12)


class Comparing(unittest.TestCase):
    def test_boards(self):
        one, other = told_board((0, 0), (2, 1)), told_board((2, 1), (7, 3), (0, 0))
        self.assertIs(one == other, False)
        self.assertIs(one != other, True)
        other.forget(7)
        # The TOLD values alone count, not the deeds.
        self.assertIs(one == other, True)
        self.assertIs(one != other, False)
        self.assertEqual((one.deeds(), other.deeds()), (2, 4))
        self.assertIs(Board() == Board(), True)
        self.assertIs(one == Board(), False)
        self.assertIs(one == one, True)
        self.assertIs(told_board((0, 0)) == told_board((0, 1)), False)

    def test_other_things(self):
        for board in (Board(), told_board((0, 0))):
            for thing in ((), [], None, 0, 1, True, False, "", "board", ((0, 0),), [(0, 0)], {0: 0}, board.told()):
                self.assertIs(board == thing, False)
                self.assertIs(thing == board, False)
                self.assertIs(board != thing, True)
                self.assertIs(thing != board, True)

    def test_no_iteration(self):
        for board in (Board(), told_board((0, 0), (1, 1))):
            for walk in (iter, list, tuple, sorted, set, enumerate, lambda thing: [n for n in thing]):
                with self.assertRaises(TypeError):
                    walk(board)
            with self.assertRaises(TypeError):
                first, second = board

    def test_in_and_len(self):
        board = told_board((-3, 5), (BOUND, 5))
        self.assertEqual([n for n in (-3, BOUND, 5, 0, 3, BOUND + 1) if n in board], [-3, BOUND])
        self.assertEqual((len(board), len(Board())), (2, 0))
        self.assertIs(5 not in board, True)


class Calls(unittest.TestCase):
    def test_names_and_the_same_call_again(self):
        one, other = told_board((0, 0), (4, 1)), told_board((0, 0), (4, 1))
        one.tell(2, 1)
        other.tell(number=1, n=2)
        self.assertEqual(one, other)
        for n in (-1, 2, 6):
            for board in (one, other):
                self.assertEqual(board.guess(n), board.guess(n=n))
                self.assertEqual(board.can_be(n), board.can_be(n=n))
                self.assertEqual(board.can_be(n), one.can_be(n))
        self.assertEqual((one.line(), one.line()), (other.line(), one.line()))
        self.assertEqual((one.forget(2), other.forget(n=2)), (1, 1))
        self.assertEqual(one.told(), other.told())

    def test_kinds(self):
        board = told_board((0, 0), (2, 1))
        for thing in (board.told(), board.line(), board.can_be(1), *board.told()):
            self.assertIsInstance(thing, tuple)

    def test_a_new_board(self):
        self.assertEqual(len(inspect.signature(Board).parameters), 0)
        self.assertEqual(state_of(Board()), ((), 0, 0, (0, 0, 1)))
