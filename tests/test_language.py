"""Those rules of the language of the package that a look at its files can tell."""

import ast
import builtins
import re
import unittest
from pathlib import Path

PACKAGE = Path(__file__).resolve().parent.parent / "floorcorners"
BUILTINS = set(
    "len range enumerate zip min max sum abs sorted reversed int str bool list tuple dict set isinstance ord repr "
    "any all divmod map iter next Exception ValueError TypeError KeyError IndexError LookupError ZeroDivisionError "
    "ArithmeticError OverflowError RuntimeError NotImplementedError AttributeError StopIteration NotImplemented "
    "bytes frozenset pow getattr hasattr setattr type super property staticmethod classmethod object".split())
LIBRARY = {
    "math": {"gcd", "lcm", "isqrt", "comb", "perm", "factorial"},
    "heapq": {"heappush", "heappop", "heapify", "heapreplace", "heappushpop"},
    "itertools": {"product", "combinations", "permutations", "chain", "accumulate", "pairwise", "islice",
                  "zip_longest"},
    "collections": {"defaultdict", "deque"},
}
BARRED = set(
    "register mro elements open input law version_info with_traceback add_note typing typing_extensions enum "
    "Enum IntEnum StrEnum Flag IntFlag Generic Protocol ABC ABCMeta namedtuple NamedTuple TypedDict TYPE_CHECKING "
    "abstractmethod eval exec compile globals locals vars dir id".split())
KINDS = (
    ast.AsyncFunctionDef, ast.AsyncFor, ast.AsyncWith, ast.Await, ast.Import, ast.Div, ast.MatMult)
DECORATORS = ("property", "staticmethod", "classmethod")


def sources():
    return [(path, path.read_text(encoding="utf-8")) for path in sorted(PACKAGE.glob("*.py"))]


def trees():
    return [(path, ast.parse(text)) for path, text in sources()]


class Language(unittest.TestCase):
    def test_the_folder_holds_nothing_else(self):
        for path in PACKAGE.iterdir():
            if path.name != "__pycache__":
                self.assertRegex(path.name, r"^[a-z0-9_]+\.py$")

    def test_sizes_and_characters(self):
        for path, text in sources():
            rows = text.split("\n")
            self.assertLessEqual(len(rows), 399, path)
            self.assertEqual([row for row in rows if len(row) > 120 or row != row.rstrip()], [], path)
            self.assertIsNone(re.search(r"[^ -~\n]", text), path)

    def test_functions_are_short(self):
        for path, tree in trees():
            for part in ast.walk(tree):
                if isinstance(part, (ast.FunctionDef, ast.Lambda)):
                    self.assertLessEqual(part.end_lineno - part.lineno + 1, 40, (path, part.lineno))

    def test_files_hold_only_what_may_stand_at_module_level(self):
        kinds = (ast.ImportFrom, ast.FunctionDef, ast.ClassDef, ast.Assign)
        for path, tree in trees():
            for place, part in enumerate(tree.body):
                docstring = place == 0 and isinstance(part, ast.Expr) and isinstance(part.value, ast.Constant)
                self.assertTrue(docstring or isinstance(part, kinds), (path, part.lineno))

    def test_imports(self):
        for path, tree in trees():
            for part in ast.walk(tree):
                if isinstance(part, ast.ImportFrom):
                    self.check_import(path, part)

    def check_import(self, path, part):
        names = {alias.name for alias in part.names}
        self.assertEqual([alias.asname for alias in part.names], [None] * len(part.names), path)
        if part.module in LIBRARY:
            self.assertLessEqual(names, LIBRARY[part.module], path)
            return
        self.assertTrue(part.level == 0 and part.module.startswith("floorcorners."), (path, part.lineno))
        text = (PACKAGE / (part.module.split(".")[1] + ".py")).read_text(encoding="utf-8")
        defined = {item.name for item in ast.parse(text).body if isinstance(item, (ast.FunctionDef, ast.ClassDef))}
        self.assertLessEqual(names, defined, path)

    def test_all_imports_are_used(self):
        for path, tree in trees():
            imports = [part for part in tree.body if isinstance(part, ast.ImportFrom)]
            wanted = {alias.name for part in imports for alias in part.names}
            used = {part.id for part in ast.walk(tree) if isinstance(part, ast.Name)}
            self.assertEqual(wanted - used, set(), path)

    def test_statements_and_values(self):
        for path, tree in trees():
            for part in ast.walk(tree):
                where = (path, getattr(part, "lineno", 0))
                self.assertNotIsInstance(part, KINDS, where)
                if isinstance(part, ast.FunctionDef):
                    found = [ast.unparse(decorator) for decorator in part.decorator_list]
                    self.assertEqual([name for name in found if name not in DECORATORS], [], where)
                if isinstance(part, ast.Constant):
                    self.assertNotIsInstance(part.value, (float, complex, bytes), where)
                if isinstance(part, ast.BinOp) and isinstance(part.op, ast.Pow):
                    self.assertIsInstance(part.right, ast.Constant, where)

    def test_names(self):
        for path, tree in trees():
            for part in ast.walk(tree):
                where = (path, getattr(part, "lineno", 0))
                for name, bound in names_of(part):
                    self.assertNotIn(name, BARRED, where)
                    if hasattr(builtins, name) and not name.startswith("__"):
                        self.assertTrue(name in BUILTINS and not bound, (name, where))

    def test_no_name_of_the_file_is_used_for_something_else_in_it(self):
        for path, tree in trees():
            taken = [part.name for part in tree.body if isinstance(part, (ast.FunctionDef, ast.ClassDef))]
            for part in tree.body:
                if isinstance(part, ast.ImportFrom):
                    taken += [alias.name for alias in part.names]
            self.assertEqual(len(taken), len(set(taken)), path)
            for part in ast.walk(tree):
                if not isinstance(part, (ast.FunctionDef, ast.ClassDef)):
                    for name, bound in names_of(part):
                        self.assertFalse(bound and name in taken, (path, name))

    def test_no_percent_sign_in_strings(self):
        for path, tree in trees():
            for part in ast.walk(tree):
                if isinstance(part, ast.Constant) and isinstance(part.value, str):
                    self.assertNotIn("%", part.value, (path, part.lineno))


def names_of(part):
    """Pairs of a name that stands here and whether it is bound here."""
    if isinstance(part, ast.Name):
        return [(part.id, not isinstance(part.ctx, ast.Load))]
    if isinstance(part, ast.arg):
        return [(part.arg, True)]
    if isinstance(part, (ast.FunctionDef, ast.ClassDef)):
        return [(part.name, True)]
    return []
