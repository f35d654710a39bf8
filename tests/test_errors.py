"""[2], [20]: the error classes."""

import inspect
import unittest

from floorcorners import errors
from floorcorners.errors import BadLine, BadText, NoLine, NoNumber, NotStraight, NothingDone, TooFew

UNDER = {
    NoNumber: LookupError,
    NothingDone: LookupError,
    NoLine: ValueError,
    NotStraight: ValueError,
    TooFew: ValueError,
    BadText: ValueError,
    BadLine: ValueError,
}
WITH_NUMBER = (NoNumber, BadLine)


class Errors(unittest.TestCase):
    def test_each_stands_directly_under_its_builtin_class_and_under_no_other(self):
        for kind, base in UNDER.items():
            self.assertEqual(kind.__bases__, (base,))
            for other in UNDER:
                self.assertEqual(issubclass(kind, other), kind is other)

    def test_there_are_just_these(self):
        found = [kind for _, kind in inspect.getmembers(errors, inspect.isclass)]
        self.assertEqual(set(found), set(UNDER))
        for kind in found:
            self.assertEqual(kind.__module__, "floorcorners.errors")

    def test_fields_by_position_and_by_name(self):
        for kind in WITH_NUMBER:
            self.assertEqual(list(inspect.signature(kind).parameters), ["number"])
            for number in (0, 4, -7, 10 ** 40, 10 ** 5000):
                self.assertEqual(kind(number).number, number)
                self.assertEqual(vars(kind(number=number)), {"number": number})

    def test_fields_are_needed(self):
        for kind in WITH_NUMBER:
            with self.assertRaises(TypeError):
                kind()

    def test_the_others_have_no_fields(self):
        for kind in UNDER:
            if kind not in WITH_NUMBER:
                self.assertEqual(vars(kind()), {})

    def test_each_is_caught_by_its_own_name_and_by_its_base(self):
        for kind, base in UNDER.items():
            error = kind(3) if kind in WITH_NUMBER else kind()
            for caught in (kind, base):
                with self.assertRaises(caught):
                    raise error
