"""Holds the package's files against those rules of its language that can be seen from outside."""

import ast
import pathlib
import re
import unittest

PACKAGE = pathlib.Path(__file__).resolve().parent.parent / "panstack"

STATEMENTS = (
    ast.FunctionDef, ast.ClassDef, ast.Assign, ast.AugAssign, ast.If, ast.While, ast.For, ast.Return,
    ast.Break, ast.Continue, ast.Pass, ast.Raise, ast.Try, ast.ImportFrom, ast.Expr)
EXPRESSIONS = (
    ast.Constant, ast.Name, ast.Attribute, ast.Subscript, ast.Slice, ast.List, ast.Tuple, ast.Dict,
    ast.BinOp, ast.UnaryOp, ast.BoolOp, ast.Compare, ast.IfExp, ast.Call, ast.ListComp, ast.Lambda,
    ast.JoinedStr, ast.FormattedValue)
BUILTINS = (
    "len range enumerate zip min max sum abs sorted reversed int str bool list tuple dict set frozenset "
    "isinstance ord repr any all divmod Exception ValueError KeyError IndexError LookupError "
    "ZeroDivisionError").split()
BANNED_WORDS = (
    "type typing typing_extensions enum Enum IntEnum StrEnum Flag IntFlag Generic Protocol ABC ABCMeta "
    "namedtuple NamedTuple TypedDict TYPE_CHECKING abstractmethod").split()
BANNED_PARTS = "dataclass overload contextmanager".split()


def sources():
    return [(path, path.read_text(encoding="utf-8")) for path in sorted(PACKAGE.glob("*.py"))]


class Language(unittest.TestCase):
    def test_only_plain_files_lie_in_the_package(self):
        for path in PACKAGE.iterdir():
            if path.name != "__pycache__":
                self.assertRegex(path.name, r"\A([a-z][a-z0-9_]*|__init__)\.py\Z")
        self.assertTrue((PACKAGE / "__init__.py").exists())

    def test_sizes_and_signs(self):
        for path, text in sources():
            self.assertLessEqual(text.count("\n"), 399, path)
            for line in text.split("\n"):
                self.assertLessEqual(len(line), 120, path)
                self.assertRegex(line, r"\A[ -~]*\Z", path)

    def test_words_that_stand_nowhere(self):
        for path, text in sources():
            for word in re.findall(r"\w+", text):
                self.assertNotIn(word, BANNED_WORDS, path)
            for part in BANNED_PARTS:
                self.assertNotIn(part, text, path)

    def test_imports_are_the_package_s_own(self):
        for path, text in sources():
            for node in ast.walk(ast.parse(text)):
                if isinstance(node, ast.ImportFrom):
                    self.assertEqual(node.level, 0, path)
                    self.assertRegex(node.module, r"\Apanstack\.[a-z_]+\Z", path)

    def test_statements_and_expressions(self):
        for path, text in sources():
            for node in ast.walk(ast.parse(text)):
                where = (path.name, getattr(node, "lineno", 0))
                if isinstance(node, ast.stmt):
                    self.assertIsInstance(node, STATEMENTS, where)
                if isinstance(node, ast.expr):
                    self.assertIsInstance(node, EXPRESSIONS, where)
                if isinstance(node, (ast.While, ast.For)):
                    self.assertEqual(node.orelse, [], where)
                if isinstance(node, ast.Assign):
                    self.assertEqual(len(node.targets), 1, where)
                if isinstance(node, ast.Constant):
                    self.assertIn(type(node.value), (int, str, bool, type(None)), where)

    def test_functions_are_plain_and_small(self):
        for path, text in sources():
            for node in ast.walk(ast.parse(text)):
                if isinstance(node, ast.FunctionDef):
                    self.assertLessEqual(node.end_lineno - node.lineno + 1, 40, (path.name, node.name))
                    self.assertEqual(node.decorator_list, [], (path.name, node.name))
                    given = node.args
                    self.assertFalse(given.vararg or given.kwarg or given.kwonlyargs, (path.name, node.name))

    def test_no_name_of_python_s_own_but_the_listed_ones(self):
        own = set(dir(__import__("builtins"))) - set(BUILTINS) - {"__name__"}
        for path, text in sources():
            for node in ast.walk(ast.parse(text)):
                where = (path.name, getattr(node, "lineno", 0))
                if isinstance(node, ast.Name):
                    self.assertNotIn(node.id, own, where)
                    self.assertFalse(node.id.startswith("_"), where)
                    if isinstance(node.ctx, ast.Store):
                        self.assertNotIn(node.id, BUILTINS, where)
                if isinstance(node, ast.arg):
                    self.assertNotIn(node.arg, BUILTINS + sorted(own), where)


if __name__ == "__main__":
    unittest.main()
