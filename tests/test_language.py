"""The form of the package's files, as far as it is plain to see: sizes, signs, names, imports."""

import ast
import builtins
import pathlib
import re
import unittest

PACKAGE = pathlib.Path(__file__).resolve().parent.parent / "windheights"

ALLOWED_NAMES = set(
    "len range enumerate zip min max sum abs sorted reversed int str bool list tuple dict set frozenset "
    "isinstance ord repr any all divmod Exception ValueError TypeError KeyError IndexError LookupError "
    "ZeroDivisionError ArithmeticError OverflowError RuntimeError NotImplementedError AttributeError "
    "StopIteration".split()
)

FORBIDDEN_WORDS = re.compile(
    r"\b(type|typing|typing_extensions|enum|Enum|IntEnum|StrEnum|Flag|IntFlag|Generic|Protocol|ABC|ABCMeta"
    r"|namedtuple|NamedTuple|TypedDict|TYPE_CHECKING|abstractmethod)\b|dataclass|overload|contextmanager"
)

FORBIDDEN_NODES = (
    ast.With, ast.Match, ast.Delete, ast.Global, ast.Nonlocal, ast.Assert, ast.Yield, ast.YieldFrom, ast.Await,
    ast.AsyncFunctionDef, ast.AsyncFor, ast.AsyncWith, ast.SetComp, ast.DictComp, ast.GeneratorExp,
    ast.NamedExpr, ast.Starred, ast.Div, ast.Import, ast.ImportFrom,
)


def files():
    return sorted(PACKAGE.glob("*.py"))


def trees():
    return [(file.name, ast.parse(file.read_text("utf-8"))) for file in files()]


class Form(unittest.TestCase):
    def test_only_python_files_lie_in_the_package(self):
        names = [path.name for path in PACKAGE.iterdir() if path.name != "__pycache__"]
        self.assertEqual(sorted(names), ["__init__.py", "balloon.py"])

    def test_files_and_lines(self):
        for file in files():
            lines = file.read_text("utf-8").split("\n")
            self.assertLessEqual(len(lines), 400, file.name)
            for number, line in enumerate(lines, start=1):
                with self.subTest(file=file.name, line=number):
                    self.assertLessEqual(len(line), 120)
                    self.assertRegex(line, r"\A[ -~]*\Z")
                    self.assertNotRegex(line, FORBIDDEN_WORDS)

    def test_functions_have_at_most_40_lines(self):
        for name, tree in trees():
            for node in ast.walk(tree):
                if isinstance(node, ast.FunctionDef):
                    with self.subTest(file=name, function=node.name):
                        self.assertLessEqual(node.end_lineno - node.lineno + 1, 40)

    def test_imports_nothing_and_keeps_to_its_statements(self):
        for name, tree in trees():
            for node in ast.walk(tree):
                if isinstance(node, FORBIDDEN_NODES):
                    self.fail(f"{name}: {ast.dump(node)}")

    def test_only_listed_names_of_pythons_own(self):
        for name, tree in trees():
            for node in ast.walk(tree):
                if isinstance(node, ast.Name) and hasattr(builtins, node.id):
                    with self.subTest(file=name, line=node.lineno):
                        self.assertIn(node.id, ALLOWED_NAMES)
                        self.assertIsInstance(node.ctx, ast.Load)

    def test_a_set_stands_straight_within_sorted_or_len(self):
        for name, tree in trees():
            calls = [node for node in ast.walk(tree) if isinstance(node, ast.Call)]
            sets = [node for node in calls if isinstance(node.func, ast.Name) and node.func.id == "set"]
            walked = [node.args[0] for node in calls
                      if isinstance(node.func, ast.Name) and node.func.id in ("sorted", "len")]
            for node in sets:
                with self.subTest(file=name, line=node.lineno):
                    self.assertIn(node, walked)

    def test_no_name_is_a_method_and_a_value(self):
        methods = set()
        values = set()
        for name, tree in trees():
            for node in ast.walk(tree):
                if isinstance(node, ast.ClassDef):
                    methods.update(inner.name for inner in node.body if isinstance(inner, ast.FunctionDef))
                if isinstance(node, ast.Attribute) and isinstance(node.ctx, ast.Store):
                    values.add(node.attr)
        self.assertEqual(methods & values, set())


if __name__ == "__main__":
    unittest.main()
