"""The package keeps to those rules of its language that are plainly read off its text."""

import ast
import builtins
import pathlib
import re
import unittest

PACKAGE = pathlib.Path(__file__).resolve().parent.parent / "hatguess"
ALLOWED = set(
    "len range enumerate zip min max sum abs sorted reversed int str bool bytes list tuple dict set frozenset"
    " isinstance ord repr any all divmod Exception ValueError TypeError KeyError IndexError LookupError"
    " ZeroDivisionError ArithmeticError OverflowError RuntimeError NotImplementedError AttributeError"
    " StopIteration NotImplemented".split()
)
BARRED = re.compile(
    r"\b(type|typing|typing_extensions|enum|Enum|IntEnum|StrEnum|Flag|IntFlag|Generic|Protocol|ABC|ABCMeta|namedtuple"
    r"|NamedTuple|TypedDict|TYPE_CHECKING|abstractmethod)\b|dataclass|overload|contextmanager"
)


def sources():
    return [(path.name, path.read_text(encoding="utf-8")) for path in sorted(PACKAGE.rglob("*.py"))]


def nodes(kind):
    for name, text in sources():
        for node in ast.walk(ast.parse(text)):
            if isinstance(node, kind):
                yield name, node


class Language(unittest.TestCase):
    def test_the_package_is_there(self):
        names = [name for name, text in sources()]
        for name in ["__init__", "answers", "errors", "hats", "line", "once", "passing", "tables"]:
            self.assertIn(name + ".py", names)

    def test_the_folder_holds_nothing_else(self):
        for path in PACKAGE.iterdir():
            if path.name != "__pycache__":
                self.assertTrue(path.is_file() and re.fullmatch(r"[a-z0-9_]+\.py", path.name), path.name)

    def test_characters_and_sizes(self):
        for name, text in sources():
            with self.subTest(name=name):
                self.assertRegex(text, r"\A[ -~\n]*\Z")
                rows = text.split("\n")
                self.assertLessEqual(len(rows), 400)
                self.assertLessEqual(max(len(row) for row in rows), 120)

    def test_functions_are_short(self):
        for name, node in nodes(ast.FunctionDef):
            with self.subTest(name=name, function=node.name):
                self.assertLessEqual(node.end_lineno - node.lineno + 1, 40)

    def test_words_that_do_not_occur(self):
        for name, text in sources():
            with self.subTest(name=name):
                self.assertIsNone(BARRED.search(text))

    def test_only_the_package_itself_is_imported(self):
        self.assertEqual(list(nodes(ast.Import)), [])
        for name, node in nodes(ast.ImportFrom):
            with self.subTest(name=name, line=node.lineno):
                self.assertEqual(node.level, 0)
                self.assertTrue(node.module.startswith("hatguess."))

    def test_only_allowed_builtins_are_used(self):
        for name, node in nodes(ast.Name):
            if hasattr(builtins, node.id):
                with self.subTest(name=name, line=node.lineno):
                    self.assertIn(node.id, ALLOWED)

    def test_powers_are_literal(self):
        for name, node in nodes(ast.BinOp):
            if isinstance(node.op, ast.Pow):
                with self.subTest(name=name, line=node.lineno):
                    self.assertIsInstance(node.right, ast.Constant)

    def test_no_floats_and_no_names_with_an_underscore_ahead(self):
        for name, node in nodes((ast.Constant, ast.Div, ast.Name)):
            with self.subTest(name=name):
                self.assertNotIsInstance(node, ast.Div)
                self.assertNotIsInstance(getattr(node, "value", None), (float, complex))
                self.assertFalse(getattr(node, "id", "x").startswith("_"))


if __name__ == "__main__":
    unittest.main()
