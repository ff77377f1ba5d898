"""The form of the package's own files: the rules that can be seen in few lines."""

import ast
import builtins
import pathlib
import re
import unittest

PACKAGE = pathlib.Path(__file__).resolve().parent.parent / "ringdice"
FILES = sorted(path for path in PACKAGE.rglob("*") if "__pycache__" not in path.parts)

NODES = set("""
    Module Expr Import ImportFrom alias FunctionDef arguments arg ClassDef Return Assign AugAssign Name Load Store
    Constant List Tuple Dict BinOp Add Sub Mult FloorDiv Mod Pow LShift RShift BitAnd BitOr BitXor UnaryOp USub
    Invert Not BoolOp And Or Compare Eq NotEq Lt LtE Gt GtE In NotIn Is IsNot IfExp Call keyword Attribute
    Subscript Slice ListComp comprehension If While For Break Continue Pass Raise Try ExceptHandler Lambda
    JoinedStr FormattedValue
""".split())

BUILTIN_NAMES = set("""
    len range enumerate zip min max sum abs sorted reversed int str bool list tuple dict set frozenset isinstance
    ord repr any all divmod Exception ValueError TypeError KeyError IndexError LookupError ZeroDivisionError
    ArithmeticError OverflowError RuntimeError NotImplementedError AttributeError StopIteration
""".split())

METHODS = set("""
    append clear copy count endswith extend find get index insert items join keys pop remove replace reverse
    setdefault split startswith strip update values bit_length
""".split())

WORDS_LEFT_OUT = re.compile(
    r"\b(type|typing|typing_extensions|enum|Enum|IntEnum|StrEnum|Flag|IntFlag|Generic|Protocol|ABC|ABCMeta"
    r"|namedtuple|NamedTuple|TypedDict|TYPE_CHECKING|abstractmethod)\b|dataclass|overload|contextmanager")


class FormTest(unittest.TestCase):
    def each_file(self):
        for path in FILES:
            yield path.read_text(encoding="utf-8")

    def each_node(self):
        for text in self.each_file():
            yield from ast.walk(ast.parse(text))

    def test_files(self):
        self.assertIn("__init__.py", [path.name for path in FILES])
        self.assertIn("desk.py", [path.name for path in FILES])
        for path in FILES:
            self.assertRegex(path.name, r"^([a-z][a-z0-9_]*|__init__|__main__)\.py$")
            self.assertNotRegex(path.name, r"^(test|conftest|site)")

    def test_signs_words_and_size(self):
        for text in self.each_file():
            self.assertRegex(text, r"\A[ -~\n]*\Z")
            self.assertIsNone(WORDS_LEFT_OUT.search(text))
            rows = text.split("\n")
            self.assertLessEqual(len(rows), 400)
            self.assertLessEqual(max(len(row) for row in rows), 120)

    def test_functions(self):
        for node in self.each_node():
            if isinstance(node, ast.FunctionDef):
                self.assertLessEqual(node.end_lineno - node.lineno + 1, 40, node.name)
                self.assertEqual(node.decorator_list, [])
                self.assertIsNone(node.args.vararg)
                self.assertIsNone(node.args.kwarg)
                self.assertEqual(node.args.kwonlyargs, [])

    def test_kinds_of_code(self):
        for node in self.each_node():
            self.assertIn(node.__class__.__name__, NODES, getattr(node, "lineno", None))
            if isinstance(node, ast.Constant):
                self.assertIsInstance(node.value, (int, str, bool, None.__class__))

    def test_imports(self):
        for node in self.each_node():
            self.assertNotIsInstance(node, ast.Import)
            if isinstance(node, ast.ImportFrom):
                self.assertEqual(node.level, 0)
                self.assertRegex(node.module, r"^ringdice\.")

    def test_names(self):
        for node in self.each_node():
            if isinstance(node, ast.Name):
                self.assertFalse(node.id.startswith("_"), node.id)
                if hasattr(builtins, node.id):
                    self.assertIn(node.id, BUILTIN_NAMES)
                    self.assertIsInstance(node.ctx, ast.Load, node.id)
            if isinstance(node, ast.arg):
                self.assertFalse(hasattr(builtins, node.arg), node.arg)
            if isinstance(node, ast.Attribute):
                self.assertIn(node.attr, METHODS)


if __name__ == "__main__":
    unittest.main()
