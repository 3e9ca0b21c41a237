"""The package's own files: what they may call, and how long they may be."""

import ast
import pathlib
import re
import unittest

PACKAGE = pathlib.Path(__file__).resolve().parent.parent / "tokenways"

CALLABLE = set(
    "len range enumerate zip min max sum abs sorted reversed int str bool list tuple dict set"
    " frozenset isinstance ord repr any all divmod".split()
)

UNSAID = re.compile(
    r"\b(type|typing|typing_extensions|enum|Enum|IntEnum|StrEnum|Flag|IntFlag|Generic|Protocol|ABC|ABCMeta"
    r"|namedtuple|NamedTuple|TypedDict|TYPE_CHECKING|abstractmethod)\b|dataclass|overload|contextmanager"
)

# The kinds of pieces that LANGUAGE.md lets a file be made of, as far as they are needed here.
PIECES = set(
    "Module FunctionDef arguments arg Expr Assign Name Load Store Constant UnaryOp USub Not BinOp Add Sub Mult"
    " FloorDiv LShift BitOr BitAnd BoolOp And Or Compare Eq NotEq Lt LtE Gt GtE Is IsNot If For While Return Call"
    " keyword Lambda IfExp Subscript Slice Attribute List Tuple ListComp comprehension".split()
)

METHODS = {"append"}


def sources():
    return [(path, path.read_text(encoding="utf-8")) for path in sorted(PACKAGE.glob("*.py"))]


class Form(unittest.TestCase):
    def test_only_python_files_lie_in_the_package(self):
        names = sorted(path.name for path in PACKAGE.iterdir() if path.name != "__pycache__")
        self.assertEqual(names, ["__init__.py", "checks.py"])

    def test_signs_words_and_lengths(self):
        for path, text in sources():
            self.assertRegex(text, r"\A[ -~\n]*\Z", path.name)
            self.assertIsNone(UNSAID.search(text), path.name)
            lines = text.split("\n")
            self.assertLessEqual(len(lines), 400, path.name)
            self.assertLessEqual(max(len(line) for line in lines), 120, path.name)

    def test_functions_are_short(self):
        for path, text in sources():
            for node in ast.walk(ast.parse(text)):
                if isinstance(node, ast.FunctionDef):
                    self.assertLessEqual(node.end_lineno - node.lineno + 1, 40, node.name)

    def test_pieces_and_methods(self):
        for path, text in sources():
            for node in ast.walk(ast.parse(text)):
                self.assertIn(type(node).__name__, PIECES, (path.name, getattr(node, "lineno", None)))
                if isinstance(node, ast.Attribute):
                    self.assertIn(node.attr, METHODS, (path.name, node.lineno))

    def test_nothing_is_imported(self):
        for path, text in sources():
            for node in ast.walk(ast.parse(text)):
                self.assertNotIsInstance(node, (ast.Import, ast.ImportFrom), path.name)

    def test_only_own_functions_and_allowed_names_are_called(self):
        for path, text in sources():
            tree = ast.parse(text)
            own = {node.name for node in tree.body if isinstance(node, ast.FunctionDef)}
            for node in ast.walk(tree):
                if isinstance(node, ast.Call) and isinstance(node.func, ast.Name):
                    self.assertIn(node.func.id, own | CALLABLE, path.name)


if __name__ == "__main__":
    unittest.main()
