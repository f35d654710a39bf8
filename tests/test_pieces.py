"""[9] and [1] (f): STRETCHes cut into pieces."""

import random
import unittest

from floorcorners.compare import same_on
from floorcorners.errors import NoLine, TooFew
from floorcorners.lines import value
from floorcorners.pieces import (
    furthest, is_cut, pieces, runs, serves_around, serves_from, serves_to, stuck_at,
)
from tests.plain import BOUND, drawn_line, near_line
from tests.ways import answer_of, check_ways


def drawn_cases(seed, many):
    draw = random.Random(seed)
    for _ in range(many):
        line = drawn_line(draw, draw.choice((2, 5, 12, 60)))
        first = draw.randint(-25, 25)
        yield draw, line, (first, first + draw.choice((0, 1, 4, 15, 50)))


def other_line(draw, line):
    return near_line(draw, line) if draw.random() < 0.75 else drawn_line(draw, 12)


def plain_runs(line, other, stretch):
    """All STRETCHes on which other serves and that can be made no longer, number by number."""
    found, start = [], None
    for n in range(stretch[0], stretch[1] + 2):
        serves = n <= stretch[1] and value(line, n) == value(other, n)
        if serves and start is None:
            start = n
        if not serves and start is not None:
            found.append((start, n - 1))
            start = None
    return found


def plain_furthest(line, others, stretch):
    """(n, places), number by number."""
    ends = []
    for place, other in enumerate(others):
        n = stretch[0]
        while n <= stretch[1] and value(line, n) == value(other, n):
            n += 1
        if n > stretch[0]:
            ends.append((n - 1, place))
    if not ends:
        return None
    most = max([n for n, _ in ends])
    return (most, tuple([place for n, place in ends if n == most]))


def plain_pieces(line, others, stretch, many):
    """("cut", pieces), (NoLine, the number) or (TooFew, None)."""
    found, start = [], stretch[0]
    while start <= stretch[1]:
        if len(found) == many:
            return (TooFew, None)
        ahead = plain_furthest(line, others, (start, stretch[1]))
        if ahead is None:
            return (NoLine, start)
        found.append((start, ahead[0], ahead[1][0]))
        start = ahead[0] + 1
    return ("cut", tuple(found))


def fewest_pieces(line, others, stretch):
    """How many pieces are needed, of all ways to cut the STRETCH; None if there is no way."""
    fewest = {stretch[0]: 0}
    for n in range(stretch[0], stretch[1] + 1):
        if n not in fewest:
            continue
        for other in others:
            m = n
            while m <= stretch[1] and value(line, m) == value(other, m):
                m += 1
                fewest[m] = min(fewest.get(m, fewest[n] + 1), fewest[n] + 1)
    return fewest.get(stretch[1] + 1)


class Examples(unittest.TestCase):
    def setUp(self):
        self.third, self.near = (1, 0, 3), (5, 0, 16)
        self.others = (self.near, (11, 0, 32), (11, -11, 32))

    def test_serves(self):
        third, near = self.third, self.near
        self.assertEqual(
            (serves_to(third, near, (0, 50)), serves_to(third, near, (3, 50)), serves_from(third, near, (0, 17)),
             serves_from(third, (11, 0, 32), (0, 31)), serves_around(third, near, (0, 50), 7),
             serves_around(third, near, (0, 50), 3), serves_to(third, third, (-10 ** 40, 10 ** 40))),
            (2, None, 16, 0, (7, 8), None, 10000000000000000000000000000000000000000))

    def test_runs(self):
        third, near = self.third, self.near
        self.assertEqual(
            (runs(third, near, (0, 50), 3), runs(third, near, (0, 50), 1), runs(third, (1, 7, 3), (0, 50), 9),
             runs(third, (11, 0, 32), (0, 70), 9)),
            ([(0, 2), (4, 5), (7, 8)], [(0, 2)], [],
             [(0, 31), (33, 34), (36, 37), (39, 40), (42, 43), (45, 46), (48, 49), (51, 52), (54, 55)]))

    def test_pieces_and_furthest(self):
        third, near, others = self.third, self.near, self.others
        self.assertEqual(
            (pieces(third, others, (0, 62), 9), furthest(third, others, (0, 62)),
             furthest(third, (near, near), (0, 62)), furthest(third, (near,), (3, 4))),
            (((0, 31, 1), (32, 62, 2)), (31, (1,)), (2, (0, 1)), None))

    def test_cuts(self):
        third, near, others = self.third, self.near, self.others
        self.assertEqual(
            (is_cut(third, others, (0, 62), ((0, 9, 1), (10, 31, 1), (32, 62, 2))),
             is_cut(third, others, (0, 62), ((0, 32, 1), (33, 62, 2))), is_cut(third, others, (0, 62), ((0, 31, 1),)),
             stuck_at(third, (near,), (0, 62), 60), stuck_at(third, others, (0, 62), 1)),
            (True, False, False, 3, None))

    def test_errors(self):
        with self.assertRaises(NoLine):
            pieces(self.third, (self.near,), (0, 62), 60)
        with self.assertRaises(TooFew):
            pieces(self.third, self.others, (0, 62), 1)


class BesideAPlainWalk(unittest.TestCase):
    def test_serves_and_runs(self):
        for draw, line, stretch in drawn_cases(131, 500):
            other = other_line(draw, line)
            found = plain_runs(line, other, stretch)
            first, last = stretch
            ahead = [run[1] for run in found if run[0] == first]
            behind = [run[0] for run in found if run[1] == last]
            self.assertEqual(serves_to(line, other, stretch), ahead[0] if ahead else None)
            self.assertEqual(serves_from(line, other, stretch), behind[0] if behind else None)
            for n in range(first, last + 1):
                around = [run for run in found if run[0] <= n <= run[1]]
                self.assertEqual(serves_around(line, other, stretch, n), around[0] if around else None)
            for many in (1, 2, 3, 60):
                self.assertEqual(runs(line, other, stretch, many), found[:many], (line, other, stretch))

    def test_furthest(self):
        for draw, line, stretch in drawn_cases(132, 300):
            others = tuple([other_line(draw, line) for _ in range(draw.choice((1, 2, 5, 20)))])
            self.assertEqual(furthest(line, others, stretch), plain_furthest(line, others, stretch))

    def test_pieces(self):
        kinds = {NoLine: 0, TooFew: 0, "cut": 0}
        for draw, line, stretch in drawn_cases(133, 500):
            others = tuple([other_line(draw, line) for _ in range(draw.choice((1, 2, 3, 8, 20)))])
            for many in (1, 2, draw.randint(1, 9), 60):
                kind, found = plain_pieces(line, others, stretch, many)
                kinds[kind] += 1
                self.assertEqual(stuck_at(line, others, stretch, many), found if kind is NoLine else None)
                if kind != "cut":
                    self.assertEqual(answer_of(pieces, line, others, stretch, many), (kind, {}))
                    continue
                self.assertEqual(pieces(line, others, stretch, many), found)
                self.assertIs(is_cut(line, others, stretch, found), True)
        self.assertGreater(min(kinds.values()), 50)

    def test_not_fewer_pieces_would_do(self):
        """[1] (f) and the guarantee."""
        for draw, line, stretch in drawn_cases(134, 200):
            others = tuple([other_line(draw, line) for _ in range(4)])
            fewest = fewest_pieces(line, others, stretch)
            if fewest is None:
                self.assertEqual(answer_of(pieces, line, others, stretch, 60), (NoLine, {}))
            else:
                self.assertEqual(len(pieces(line, others, stretch, 60)), fewest)

    def test_is_cut_of_drawn_cuts(self):
        yes = 0
        for draw, line, stretch in drawn_cases(135, 400):
            others = tuple([other_line(draw, line) for _ in range(3)]) + (line,)
            ends = sorted({draw.randint(*stretch) for _ in range(draw.randint(0, 3))} | {stretch[1]})
            starts = [stretch[0]] + [end + 1 for end in ends[:-1]]
            thing = []
            for start, end in zip(starts, ends):
                serving = [place for place, other in enumerate(others)
                           if all(value(line, n) == value(other, n) for n in range(start, end + 1))]
                thing.append((start, end, draw.choice(serving)))
            self.assertIs(is_cut(line, others, stretch, tuple(thing)), True)
            at = draw.randrange(len(thing))
            first, last, place = thing[at]
            for other in range(4):
                thing[at] = (first, last, other)
                serves = plain_furthest(line, (others[other],), (first, last)) == (last, (0,))
                self.assertIs(is_cut(line, others, stretch, tuple(thing)), serves)
                yes += serves
            for wrong in ((first + 1, last, place), (first - 1, last, place), (first, last + 1, place),
                          (first, last - 1, place), (first, last, -1), (first, last, 4), (first, last, -4)):
                thing[at] = wrong
                self.assertIs(is_cut(line, others, stretch, tuple(thing)), False, (line, stretch, thing))
        self.assertGreater(yes, 400)


class Edges(unittest.TestCase):
    def setUp(self):
        self.third, self.near = (1, 0, 3), (5, 0, 16)
        self.others = (self.near, (11, 0, 32), (11, -11, 32))

    def test_is_cut_of_all_kinds_of_things(self):
        deep = (0, 62, 1)
        for _ in range(11):
            deep = (deep, 62, 1)
        for thing in (
                None, True, False, 0, 62, "", "cut", (), [], ((),), ([],), (0, 62, 1), ((0, 62, 1),), deep, (deep,),
                [(0, 31, 1), (32, 62, 2)], ([0, 31, 1], [32, 62, 2]), ((0, 31, 1), [32, 62, 2]), ((0, 31, 1), None),
                ((0, 31, 1), (32, 62)), ((0, 31, 1), (32, 62, 2, 2)), ((0, 31, 1), (32, 62, "2")),
                ((0, 31, True), (32, 62, 2)), ((False, 31, 1), (32, 62, 2)), ((0, 31, 1), (32, None, 2)),
                ((0, 31, 1), (32, 62, 3)), ((0, 31, 1), (32, 62, -1)), ((0, 31, 1), (32, 62, 10 ** 60)),
                ((0, 31, -2), (32, 62, -1)),
                ((0, 31, 1), (32, 61, 2)), ((0, 31, 1), (32, 63, 2)), ((1, 31, 1), (32, 62, 2)),
                ((-1, 31, 1), (32, 62, 2)), ((0, 30, 1), (32, 62, 2)), ((0, 31, 1), (31, 62, 2)),
                ((0, 31, 1), (33, 62, 2)), ((32, 62, 2), (0, 31, 1)), ((0, 31, 1), (32, 31, 2), (32, 62, 2)),
                ((0, 31, 1), (32, 62, 2), (63, 62, 2)), ((0, 31, 1), (32, 62, 2), (63, 70, 1)),
                ((0, -1, 1), (0, 31, 1), (32, 62, 2)), ((0, 31, 0), (32, 62, 2)), ((0, 31, 1), (32, 62, 1))):
            self.assertIs(is_cut(self.third, self.others, (0, 62), thing), False, thing)
        singles = tuple([(n, n, 1 if n < 32 else 2) for n in range(63)])
        for thing in (((0, 31, 1), (32, 62, 2)), singles, ((0, 2, 0), (3, 31, 1), (32, 62, 2))):
            self.assertIs(is_cut(self.third, self.others, (0, 62), thing), True, thing)

    def test_the_least_place_of_those_that_serve_as_far(self):
        twice = (self.near, (2, 0, 6), self.third, (3, 0, 9))
        self.assertEqual(pieces(self.third, twice, (0, 62), 1), ((0, 62, 1),))
        self.assertEqual(furthest(self.third, twice, (0, 62)), (62, (1, 2, 3)))
        self.assertEqual(furthest(self.third, twice, (0, 2)), (2, (0, 1, 2, 3)))
        self.assertEqual(pieces(self.third, twice, (0, 2), 1), ((0, 2, 0),))

    def test_whichever_error_comes_first(self):
        """near serves to 2, nothing at 3; behind the last of so many pieces nothing is looked at."""
        near = (self.near,)
        self.assertEqual(answer_of(pieces, self.third, near, (0, 9), 1), (TooFew, {}))
        self.assertEqual(answer_of(pieces, self.third, near, (0, 9), 2), (NoLine, {}))
        self.assertEqual((stuck_at(self.third, near, (0, 9), 1), stuck_at(self.third, near, (0, 9), 2)), (None, 3))
        self.assertEqual(answer_of(pieces, self.third, near, (3, 9), 1), (NoLine, {}))
        self.assertEqual(stuck_at(self.third, near, (3, 9), 1), 3)
        self.assertEqual(pieces(self.third, near, (0, 2), 1), ((0, 2, 0),))
        self.assertIsNone(stuck_at(self.third, near, (0, 2), 1))

    def test_stretches_of_one_number(self):
        for n, serves in ((2, True), (3, False), (4, True), (-1, True), (-3, True), (-2, True), (6, False)):
            stretch = (n, n)
            self.assertEqual(serves_to(self.third, self.near, stretch), n if serves else None)
            self.assertEqual(serves_from(self.third, self.near, stretch), n if serves else None)
            self.assertEqual(serves_around(self.third, self.near, stretch, n), stretch if serves else None)
            self.assertEqual(runs(self.third, self.near, stretch, 60), [stretch] if serves else [])
            self.assertEqual(furthest(self.third, (self.near,), stretch), (n, (0,)) if serves else None)

    def test_great_stretches(self):
        """n // d and (n + 1) // d differ at the last number of each period alone."""
        for d in (3, 10 ** 18, 10 ** 38):
            line, other, stretch = (1, 0, d), (1, 1, d), (0, BOUND)
            last = BOUND - (BOUND + 1) % d
            self.assertEqual(serves_to(line, other, stretch), d - 2)
            self.assertEqual(serves_from(line, other, stretch), last + 1 if last < BOUND else None)
            self.assertEqual(serves_around(line, other, stretch, 5 * d), (5 * d, 6 * d - 2))
            self.assertIsNone(serves_around(line, other, stretch, 5 * d - 1))
            self.assertEqual(runs(line, other, stretch, 60), [(k * d, k * d + d - 2) for k in range(60)])
            self.assertEqual(runs(line, other, (d - 1, BOUND), 2), [(d, 2 * d - 2), (2 * d, 3 * d - 2)])
            self.assertEqual(stuck_at(line, (other,), stretch, 60), d - 1)
            both = (other, (1, -1, d))
            self.assertEqual(pieces(line, both, (0, 2 * d), 60)[:2], ((0, d - 2, 0), (d - 1, d - 1, 1)))

    def test_great_pieces(self):
        """Each piece of some LINEs that are alike goes as far as one of them serves, and not one further."""
        draw = random.Random(136)
        some = 0
        for _ in range(25):
            a, b, d = line = drawn_line(draw, BOUND)
            stretch = (draw.randint(-BOUND, 0), BOUND)
            many = 10 ** draw.randint(0, 12)
            others = tuple([(a * many + draw.randint(-1, 1), b * many + draw.randint(0, many), d * many)
                            for _ in range(20)])
            for limit in (1, 9):
                kind, found = answer_of(pieces, line, others, stretch, limit)
                if kind != "returned":
                    continue
                some += 1
                self.assertIs(is_cut(line, others, stretch, found), True)
                for first, last, place in found[:-1]:
                    self.assertIs(same_on(line, others[place], (first, last)), True)
                    serving = [same_on(line, other, (first, last + 1)) for other in others]
                    self.assertNotIn(True, serving)
                    as_far = [same_on(line, other, (first, last)) for other in others]
                    self.assertEqual(as_far.index(True), place)
        self.assertGreater(some, 5)


class Calls(unittest.TestCase):
    def test_lists_names_and_arguments_that_stay(self):
        third, near = (1, 0, 3), (5, 0, 16)
        others = (near, (11, 0, 32), (11, -11, 32))
        for stretch in ((0, 50), (3, 50), (4, 4)):
            for function in (serves_to, serves_from):
                check_ways(self, function, line=third, other=near, stretch=stretch)
            check_ways(self, serves_around, line=third, other=near, stretch=stretch, n=4)
            for many in (1, 3, 60):
                check_ways(self, runs, line=third, other=near, stretch=stretch, many=many)
                for given in (others, (near,)):
                    check_ways(self, pieces, line=third, others=given, stretch=stretch, many=many)
                    check_ways(self, stuck_at, line=third, others=given, stretch=stretch, many=many)
            check_ways(self, furthest, line=third, others=others, stretch=stretch)
            for thing in (((0, 31, 1), (32, 50, 2)), [(0, 50, 1)], ((4, 4, 0),)):
                check_ways(self, is_cut, plain=("thing",), line=third, others=others, stretch=stretch, thing=thing)
