"""What can be seen at a glance of ../shared/LANGUAGE.md; the rest of its rules is for the reader."""

import ast
import builtins
import pathlib
import re
import unittest

PACKAGE = pathlib.Path(__file__).resolve().parent.parent / "wholepolygons"
FILES = sorted(PACKAGE.rglob("*.py"))

STATEMENTS = (
    ast.FunctionDef, ast.ClassDef, ast.ImportFrom, ast.Assign, ast.AugAssign, ast.If, ast.While, ast.For, ast.Return,
    ast.Break, ast.Continue, ast.Pass, ast.Raise, ast.Try, ast.Expr)
EXPRESSIONS = (
    ast.Constant, ast.Name, ast.List, ast.Tuple, ast.Dict, ast.Set, ast.BinOp, ast.UnaryOp, ast.Compare, ast.BoolOp,
    ast.IfExp, ast.Call, ast.Attribute, ast.Subscript, ast.Slice, ast.ListComp, ast.Lambda, ast.JoinedStr,
    ast.FormattedValue)
BUILT_IN = """len range enumerate zip min max sum abs sorted reversed int str bool list tuple dict set frozenset isinstance
    ord repr any all divmod Exception ValueError TypeError KeyError IndexError LookupError ZeroDivisionError
    ArithmeticError OverflowError RuntimeError NotImplementedError AttributeError StopIteration""".split()
WORDS = re.compile(
    r"\b(type|typing|typing_extensions|enum|Enum|IntEnum|StrEnum|Flag|IntFlag|Generic|Protocol|ABC|ABCMeta|namedtuple"
    r"|NamedTuple|TypedDict|TYPE_CHECKING|abstractmethod)\b|dataclass|overload|contextmanager")


METHODS = """append clear copy count endswith extend find get index insert isalnum isalpha isdigit islower isspace
    isupper items join keys ljust lower lstrip partition pop remove replace reverse rfind rjust rpartition rsplit rstrip
    setdefault split splitlines startswith strip update upper values zfill bit_length""".split()


class Language(unittest.TestCase):
    def nodes(self, *kinds):
        for file in FILES:
            for node in ast.walk(ast.parse(file.read_text(encoding="ascii"))):
                if isinstance(node, kinds):
                    yield f"{file.name}:{getattr(node, 'lineno', 0)}", node

    def test_files(self):
        others = [path for path in PACKAGE.rglob("*") if path.suffix not in (".py", ".pyc") and path.is_file()]
        self.assertEqual(others, [])
        self.assertIn(PACKAGE / "__init__.py", FILES)
        self.assertIn(PACKAGE / "polygons.py", FILES)

    def test_signs_and_sizes(self):
        for file in FILES:
            lines = file.read_bytes().decode("ascii").split("\n")
            self.assertLessEqual(len(lines), 400, file)
            for line in lines:
                self.assertTrue(len(line) <= 120 and all(" " <= sign <= "~" for sign in line), line)
                self.assertIsNone(WORDS.search(line), line)
        for place, node in self.nodes(ast.FunctionDef):
            self.assertLessEqual(node.end_lineno - node.lineno + 1, 40, place)

    def test_nothing_from_outside_is_imported(self):
        for place, node in self.nodes(ast.Import, ast.ImportFrom):
            self.assertIsInstance(node, ast.ImportFrom, place)
            self.assertEqual((node.level, node.module.split(".")[0]), (0, "wholepolygons"), place)

    def test_statements_and_expressions(self):
        for place, node in self.nodes(ast.stmt, ast.expr):
            self.assertIsInstance(node, STATEMENTS + EXPRESSIONS, place)
        for place, node in self.nodes(ast.Assign):
            self.assertEqual(len(node.targets), 1, place)
        for place, node in self.nodes(ast.For, ast.While):
            self.assertEqual(node.orelse, [], place)

    def test_what_is_walked_at_once_is_not_kept(self):
        for place, node in self.nodes(ast.Assign, ast.Return):
            if isinstance(node.value, ast.Call) and isinstance(node.value.func, ast.Name):
                self.assertNotIn(node.value.func.id, ("range", "zip", "enumerate", "reversed", "set"), place)

    def test_methods(self):
        own = [node.name for place, node in self.nodes(ast.FunctionDef)]
        for place, node in self.nodes(ast.Call):
            if isinstance(node.func, ast.Attribute):
                self.assertIn(node.func.attr, METHODS + own, place)

    def test_names_of_pythons_own(self):
        for place, node in self.nodes(ast.Name):
            self.assertTrue(node.id in BUILT_IN or not hasattr(builtins, node.id), f"{place} {node.id}")
            if isinstance(node.ctx, ast.Store):
                self.assertFalse(hasattr(builtins, node.id) or node.id.startswith("_"), f"{place} {node.id}")


if __name__ == "__main__":
    unittest.main()
