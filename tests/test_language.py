"""The rules of the language that can be seen in the package's files."""

import ast
import builtins
import pathlib
import re
import unittest

PACKAGE = pathlib.Path(__file__).resolve().parent.parent / "phraseways"
FILES = sorted(PACKAGE.glob("*.py"))

STATEMENTS = (ast.Assign, ast.AugAssign, ast.If, ast.While, ast.For, ast.Return, ast.Break, ast.Continue,
              ast.Pass, ast.Raise, ast.Try, ast.Expr, ast.FunctionDef, ast.ClassDef, ast.ImportFrom)
NOT_WRITTEN = (ast.Starred, ast.SetComp, ast.DictComp, ast.GeneratorExp, ast.NamedExpr, ast.Yield,
               ast.Await, ast.Div, ast.MatMult, ast.AnnAssign)
OWN_NAMES = """len range enumerate zip min max sum abs sorted reversed int str bool list tuple dict set
    frozenset isinstance ord repr any all divmod Exception ValueError TypeError KeyError IndexError LookupError
    ZeroDivisionError ArithmeticError OverflowError RuntimeError NotImplementedError AttributeError
    StopIteration""".split()
METHODS = """append clear copy count endswith extend find get index insert isalnum isalpha isdigit islower
    isspace isupper items join keys ljust lower lstrip partition pop remove replace reverse rfind rjust
    rpartition rsplit rstrip setdefault split splitlines startswith strip update upper values zfill
    bit_length add discard""".split()
NOT_SAID = re.compile(r"\b(type|typing|typing_extensions|enum|Enum|IntEnum|StrEnum|Flag|IntFlag|Generic|Protocol"
                      r"|ABC|ABCMeta|namedtuple|NamedTuple|TypedDict|TYPE_CHECKING|abstractmethod)\b"
                      r"|dataclass|overload|contextmanager")
NOT_USED = "register mro elements open input version_info with_traceback add_note".split()
KINDS = (str, int, list, dict, set, bytes, tuple)


class Language(unittest.TestCase):
    def each_node(self):
        for file in FILES:
            for node in ast.walk(ast.parse(file.read_text())):
                yield node, f"{file.name}:{getattr(node, 'lineno', 0)}"

    def test_only_sources_lie_in_the_package(self):
        there = [path.name for path in PACKAGE.iterdir() if path.name != "__pycache__"]
        self.assertEqual(sorted(there), [file.name for file in FILES])
        self.assertIn("__init__.py", there)

    def test_rows_and_signs(self):
        for file in FILES:
            rows = file.read_text().split("\n")
            self.assertLessEqual(len(rows), 400, file.name)
            for number, row in enumerate(rows, start=1):
                place = f"{file.name}:{number}"
                self.assertLessEqual(len(row), 120, place)
                self.assertTrue(all(" " <= sign <= "~" for sign in row), place)
                self.assertIsNone(NOT_SAID.search(row), place)

    def test_statements_and_expressions(self):
        for node, place in self.each_node():
            if isinstance(node, ast.stmt):
                self.assertIsInstance(node, STATEMENTS, place)
            self.assertNotIsInstance(node, NOT_WRITTEN, place)
            if isinstance(node, ast.Assign):
                self.assertEqual(len(node.targets), 1, place)
            if isinstance(node, (ast.For, ast.While)):
                self.assertEqual(node.orelse, [], place)
            if isinstance(node, ast.Constant):
                self.assertIsInstance(node.value, (int, str, bool, type(None)), place)
            if isinstance(node, ast.ImportFrom):
                self.assertTrue(node.level == 0 and node.module.startswith("phraseways."), place)

    def test_functions(self):
        for node, place in self.each_node():
            if isinstance(node, (ast.FunctionDef, ast.ClassDef)):
                self.assertEqual(node.decorator_list, [], place)
            if isinstance(node, ast.FunctionDef):
                self.assertLessEqual(node.end_lineno - node.lineno + 1, 40, place)
                self.assertIsNone(node.args.vararg or node.args.kwarg, place)
                self.assertEqual(node.args.kwonlyargs, [], place)

    def test_names(self):
        for node, place in self.each_node():
            if isinstance(node, ast.Name):
                self.assertNotIn(node.id, NOT_USED, place)
                if hasattr(builtins, node.id):
                    self.assertIn(node.id, OWN_NAMES, place)
                    self.assertIsInstance(node.ctx, ast.Load, place)
                self.assertFalse(node.id.startswith("_"), place)
            if isinstance(node, ast.arg):
                self.assertFalse(hasattr(builtins, node.arg) or node.arg.startswith("_"), place)
            if isinstance(node, ast.Attribute):
                self.assertNotIn(node.attr, NOT_USED, place)
                if any(hasattr(kind, node.attr) for kind in KINDS):
                    self.assertIn(node.attr, METHODS, place)

    def test_no_name_is_a_method_and_a_value(self):
        methods, stored = set(), set()
        for node, place in self.each_node():
            if isinstance(node, ast.ClassDef):
                methods |= {part.name for part in node.body if isinstance(part, ast.FunctionDef)}
            if isinstance(node, ast.Attribute) and isinstance(node.ctx, ast.Store):
                stored.add(node.attr)
        self.assertEqual(methods & stored, set())
        self.assertEqual({name for name in methods for kind in KINDS
                          if hasattr(kind, name) and name != "__init__" and name not in METHODS}, set())


if __name__ == "__main__":
    unittest.main()
