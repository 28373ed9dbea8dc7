"""The form of the package's files: those rules of its language that can be seen at a glance."""

import ast
import pathlib
import re
import unittest

PACKAGE = pathlib.Path(__file__).resolve().parent.parent / "ledpast"
OUTSIDE_WORDS = re.compile(
    r"\b(type|typing|typing_extensions|enum|Enum|IntEnum|StrEnum|Flag|IntFlag|Generic|Protocol|ABC|ABCMeta|namedtuple"
    r"|NamedTuple|TypedDict|TYPE_CHECKING|abstractmethod)\b|dataclass|overload|contextmanager"
)
OUTSIDE_NODES = (
    ast.Import, ast.With, ast.Match, ast.Global, ast.Nonlocal, ast.Yield, ast.YieldFrom, ast.GeneratorExp,
    ast.NamedExpr, ast.AsyncFunctionDef, ast.Await, ast.Div,
)


def sources():
    return [(path, path.read_text(encoding="utf-8")) for path in sorted(PACKAGE.glob("*.py"))]


def nodes(kinds):
    for path, text in sources():
        for node in ast.walk(ast.parse(text)):
            if isinstance(node, kinds):
                yield path.name, node


class Form(unittest.TestCase):
    def test_files_lie_flat_with_plain_names(self):
        names = [path.name for path in PACKAGE.iterdir() if path.name != "__pycache__"]
        self.assertIn("__init__.py", names)
        for name in names:
            self.assertRegex(name, r"\A[a-z_0-9]+\.py\Z")

    def test_signs_and_sizes(self):
        for path, text in sources():
            self.assertRegex(text, r"\A[\n -~]*\Z", path.name)
            rows = text.split("\n")
            self.assertLessEqual(len(rows), 401, path.name)
            self.assertLessEqual(max([len(row) for row in rows]), 120, path.name)

    def test_functions_are_short(self):
        for name, node in nodes(ast.FunctionDef):
            self.assertLessEqual(node.end_lineno - node.lineno + 1, 40, (name, node.name))
            self.assertEqual(node.decorator_list, [], (name, node.name))

    def test_imports_are_the_packages_own(self):
        for name, node in nodes(ast.ImportFrom):
            self.assertEqual(node.level, 0, name)
            self.assertTrue(node.module.startswith("ledpast."), (name, node.module))

    def test_nothing_outside_the_language(self):
        for name, node in nodes(OUTSIDE_NODES):
            self.fail((name, node.lineno, node.__class__.__name__))
        for name, node in nodes(ast.Constant):
            self.assertNotIsInstance(node.value, (float, complex), name)
        for path, text in sources():
            self.assertIsNone(OUTSIDE_WORDS.search(text), path.name)


if __name__ == "__main__":
    unittest.main()
