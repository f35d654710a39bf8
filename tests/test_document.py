"""All examples of the document, in their order, with the answers that stand there (tests/examples.txt)."""

import importlib
import unittest
from pathlib import Path

from tests.test_interface import CLASSES, FILES

EXAMPLES = Path(__file__).resolve().parent / "examples.txt"


def interface():
    """All names of the interface and what they stand for."""
    found = {}
    for name, functions in FILES.items():
        module = importlib.import_module("floorcorners." + name)
        for word in [*functions, *CLASSES.get(name, ())]:
            assert word not in found
            found[word] = getattr(module, word)
    return found


def examples():
    """(point, what is called, the row behind it; "" behind an assignment)."""
    rows = EXAMPLES.read_text(encoding="ascii").split("\n")
    point = ""
    for row, behind in zip(rows, rows[1:]):
        if row.startswith(">>> "):
            yield point, row[4:], "" if behind.startswith(">>> ") else behind
        elif row[1:-1].isdigit():
            point = row


class Document(unittest.TestCase):
    def test_examples(self):
        names = interface()
        many = {}
        for point, call, expected in examples():
            if expected == "":
                exec(call, names)
                continue
            many[point] = many.get(point, 0) + 1
            with self.subTest(point + " " + call):
                self.assertEqual(self.answer(call, names), expected)
        self.assertEqual(many, {
            "[4]": 5, "[5]": 5, "[6]": 4, "[7]": 5, "[8]": 5, "[9]": 6, "[10]": 5, "[11]": 4, "[12]": 5, "[13]": 5,
            "[14]": 4, "[15]": 4, "[16]": 6, "[17]": 4, "[18]": 5, "[19]": 5})

    def answer(self, call, names):
        """What the call returns, as it is written, or "raises" and the error."""
        try:
            return repr(eval(call, names))
        except (LookupError, ValueError) as error:
            kept = [f"{name}={kept!r}" for name, kept in vars(error).items()]
            return f"raises {type(error).__name__}({', '.join(kept)})"
