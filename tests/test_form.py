"""The form of the package's files: those rules of its language that can be read off, and that a breach is found."""

import ast
import pathlib
import re
import unittest

from language import faults

PACKAGE = pathlib.Path(__file__).resolve().parent.parent / "ledpast"
OUTSIDE_WORDS = re.compile(
    r"\b(type|typing|typing_extensions|enum|Enum|IntEnum|StrEnum|Flag|IntFlag|Generic|Protocol|ABC|ABCMeta|namedtuple"
    r"|NamedTuple|TypedDict|TYPE_CHECKING|abstractmethod)\b|dataclass|overload|contextmanager"
)
OUTSIDE_NODES = (
    ast.Import, ast.With, ast.Match, ast.Global, ast.Nonlocal, ast.Yield, ast.YieldFrom, ast.GeneratorExp,
    ast.NamedExpr, ast.AsyncFunctionDef, ast.Await, ast.Div,
)


def sources():
    return [(path, path.read_text(encoding="utf-8")) for path in sorted(PACKAGE.glob("*.py"))]


def nodes(kinds):
    for path, text in sources():
        for node in ast.walk(ast.parse(text)):
            if isinstance(node, kinds):
                yield path.name, node


class Form(unittest.TestCase):
    def test_files_lie_flat_with_plain_names(self):
        names = [path.name for path in PACKAGE.iterdir() if path.name != "__pycache__"]
        self.assertIn("__init__.py", names)
        for name in names:
            self.assertRegex(name, r"\A[a-z_0-9]+\.py\Z")

    def test_signs_and_sizes(self):
        for path, text in sources():
            self.assertRegex(text, r"\A[\n -~]*\Z", path.name)
            rows = text.split("\n")
            self.assertLessEqual(len(rows), 401, path.name)
            self.assertLessEqual(max([len(row) for row in rows]), 120, path.name)

    def test_functions_are_short(self):
        for name, node in nodes(ast.FunctionDef):
            self.assertLessEqual(node.end_lineno - node.lineno + 1, 40, (name, node.name))
            self.assertEqual(node.decorator_list, [], (name, node.name))

    def test_imports_are_the_packages_own(self):
        for name, node in nodes(ast.ImportFrom):
            self.assertEqual(node.level, 0, name)
            self.assertTrue(node.module.startswith("ledpast."), (name, node.module))

    def test_nothing_outside_the_language(self):
        for name, node in nodes(OUTSIDE_NODES):
            self.fail((name, node.lineno, node.__class__.__name__))
        for name, node in nodes(ast.Constant):
            self.assertNotIsInstance(node.value, (float, complex), name)
        for path, text in sources():
            self.assertIsNone(OUTSIDE_WORDS.search(text), path.name)


# A rule, and a file that breaks it.
BREACHES = (
    ("L2", "import sys\n"),
    ("L2", "from .errors import TooMany\n"),
    ("L2", "from math import gcd\n"),
    ("L2", "def one():\n    from ledpast.errors import TooMany\n"),
    ("L2", "A = 1\nfrom ledpast.errors import TooMany\n"),
    ("L3", "A = len([])\n"),
    ("L3", "for a in (1, 2):\n    pass\n"),
    ("L3", "A = B = 1\n"),
    ("L3", "A = {1: [2]}\n"),
    ("L4", "def one(*args):\n    return 1\n"),
    ("L4", "def one(**rest):\n    return 1\n"),
    ("L4", "def one(a, /):\n    return 1\n"),
    ("L4", "def one(a=[]):\n    return 1\n"),
    ("L4", "def two():\n    return 1\n\n\n@two\ndef one():\n    return 1\n"),
    ("L5", "class One:\n    many = 1\n"),
    ("L5", "class One:\n    def __hash__(self):\n        return 1\n"),
    ("L5", "class One:\n    pass\n\n\nclass Two(One, ValueError):\n    pass\n"),
    ("L6", "def one(xs):\n    for x in xs:\n        pass\n    else:\n        return 1\n"),
    ("L6", "def one(x):\n    x\n"),
    ("L6", "def one(x):\n    match x:\n        case 1:\n            return 2\n"),
    ("L6", "def one(x):\n    with x:\n        return 2\n"),
    ("L6", "A = 1\n\n\ndef one():\n    global A\n"),
    ("L7", "def one(xs):\n    return any(x for x in xs)\n"),
    ("L7", "def one(xs):\n    return [*xs]\n"),
    ("L7", "def one(xs):\n    return max(*xs)\n"),
    ("L7", "def one():\n    yield 1\n"),
    ("L7", "def one(x):\n    return (y := x)\n"),
    ("L7", "def one(x):\n    return x / 2\n"),
    ("L7", "def one(x):\n    return x * 0.5\n"),
    ("L7", "def one(x):\n    return f\"{x:3}\"\n"),
    ("L8", "def one(x):\n    return hash(x)\n"),
    ("L8", "def one(x):\n    return pow(x, 2, 7)\n"),
    ("L10", "def one(x):\n" + "    x += 1\n" * 40),
    ("L10", "# row\n" * 401),
    ("L10", "# " + "a" * 120 + "\n"),
    ("L12", "def one():\n    _ = 1\n"),
    ("L12", "def _one():\n    return 1\n"),
    ("L13", "def one(x):\n    return x in {1, 2, 3}\n"),
    ("L14", "# caf\u00e9\n"),
    ("L14", "A = 1\t\n"),
    ("L15", "A = 1\nA = 2\n"),
    ("L15", "def one(id):\n    return id\n"),
    ("L15", "def one(xs):\n    sum = 1\n    return sum\n"),
    ("L15", "from ledpast.errors import TooMany\n\n\ndef one():\n    TooMany = 1\n    return TooMany\n"),
    ("L15", "A = [1]\n\n\ndef one():\n    A.append(2)\n"),
    ("L15", "A = {1: 2}\n\n\ndef one():\n    return A\n"),
    ("L15", "A = {1: 2}\n\n\ndef one():\n    A[1] = 3\n"),
    ("L16", "from ledpast.errors import Nothing\n"),
    ("L16", "from ledpast.sample import one\n\n\ndef one():\n    return 1\n"),
    ("L17", "# a word of type\n"),
    ("L17", "def one():\n    open = 1\n    return open\n"),
    ("L18", "class One:\n    def __init__(self):\n        self.two = 1\n\n    def two(self):\n        return 1\n"),
    ("L18", "def one(x):\n    return x.nothing\n"),
    ("L18", "from ledpast.errors import TooMany\n\n\ndef one():\n    return [TooMany]\n"),
    ("L19", "def one():\n    raise ValueError(\"no\")\n"),
    ("L19", "def one(x):\n    try:\n        return int(x)\n    except Exception:\n        return 1\n"),
    ("L20", "def one(x):\n    return x is 3\n"),
    ("L20", "def one(x, y):\n    return x is y\n"),
    ("L21", "def one(x: int):\n    return x\n"),
    ("L21", "def one(x) -> int:\n    return x\n"),
    ("L22", "def one(xs):\n    return sorted(xs, key=repr)\n"),
    ("L22", "def one(x):\n    return x\n\n\ndef two():\n    return one(1, 2)\n"),
    ("L22", "def one(x):\n    f = len\n    return f(x)\n"),
    ("L23", "def one(xs):\n    rows = zip(xs, xs)\n    return list(rows)\n"),
    ("L23", "def one(xs):\n    return xs.items()\n"),
    ("L23", "def one(xs):\n    return None in xs.values()\n"),
    ("L23", "def one(xs):\n    for x in xs:\n        xs.append(x)\n"),
    ("L23", "def one(xs):\n    for at, x in enumerate(xs):\n        xs[at] = 1\n"),
    ("L23", "def one(xs):\n    for x in xs:\n        xs += [x]\n"),
    ("L24", "def one(xs):\n    return set(xs)\n"),
    ("L24", "def one(xs):\n    for x in set(xs):\n        return x\n"),
    ("L24", "def one(xs):\n    found = set(xs)\n    return found\n"),
    ("L24", "def one(xs):\n    found = set(xs)\n    found = set()\n    return len(found)\n"),
    ("L24", "def one(xs):\n    found = set(xs)\n    return [x for x in found]\n"),
    ("L24", "def one(xs):\n    return frozenset(xs)\n"),
    ("L24", "def one(found):\n    found.add(1)\n"),
    ("L25", "def one(x):\n    return x.popitem()\n"),
    ("L26", "class One:\n    def __init__(self):\n        self.real = 1\n"),
    ("L27", "def one(n):\n    return 2 ** n\n"),
    ("L27", "A = \"5%\"\n"),
    ("L27", "A = \"\\x41\"\n"),
    ("L28", "class One:\n    def __init__(self):\n        return None\n"),
)
KEPT = (
    "A = 1\nB = {\"a\": (A, -2)}\n\n\ndef one(x):\n    return B.get(x, B[\"a\"])\n",
    "def one(xs):\n    found = {0}\n    for x in xs:\n        found.add(x)\n    return tuple(sorted(found))\n",
    "def one(xs):\n    return [x for x, y in zip(xs, xs) if x is not None and y in {x, 2}]\n",
    "def one(xs):\n    return sorted(set(xs), key=len, reverse=True)\n",
    "from ledpast.errors import TooMany\n\n\ndef one(x):\n    raise TooMany(f\"{x}\")\n",
    "class One:\n    def __init__(self):\n        self.many = 1\n\n    def two(self):\n        return self.many\n",
)


class Language(unittest.TestCase):
    def test_the_package_keeps_to_it(self):
        self.assertEqual(faults({path.name: text for path, text in sources()}), [])

    def with_file(self, text):
        errors = (PACKAGE / "errors.py").read_text(encoding="utf-8")
        return faults({"__init__.py": "", "errors.py": errors, "sample.py": text})

    def test_breaches_are_found(self):
        for rule, text in BREACHES:
            self.assertIn(rule, [fault[0] for fault in self.with_file(text)], text)

    def test_what_is_kept_to_is_let_by(self):
        for text in KEPT:
            self.assertEqual(self.with_file(text), [], text)

    def test_names_of_files(self):
        for name in ("Sample.py", "test_a.py", "tests.py", "law_a.py", "len.py", "site.py"):
            self.assertIn("L14", [fault[0] for fault in faults({"__init__.py": "", name: ""})], name)

    def test_rounds_of_imports(self):
        two = {
            "__init__.py": "",
            "one.py": "from ledpast.two import b\n\n\ndef a():\n    return b()\n",
            "two.py": "from ledpast.one import a\n\n\ndef b():\n    return a()\n",
        }
        self.assertEqual([fault[0] for fault in faults(two)], ["L16", "L16"])

    def test_names_across_files(self):
        value = "class One:\n    def __init__(self):\n        self.word = 1\n"
        method = "class Two:\n    def word(self):\n        return 1\n"
        self.assertIn("L18", [fault[0] for fault in faults({"__init__.py": "", "one.py": value, "two.py": method})])
        for row in ("A[1] = 3", "return [A]", "A.update({})"):
            two = f"from ledpast.one import A\n\n\ndef one():\n    {row}\n"
            found = faults({"__init__.py": "", "one.py": "A = {1: 2}\n", "two.py": two})
            self.assertIn("L15", [fault[0] for fault in found], row)

    def test_the_package_has_what_the_interface_names(self):
        names = sorted([path.name for path in PACKAGE.glob("*.py")])
        for name in ("errors", "stretches", "plans", "runs", "facts", "led", "papers", "short", "walkers", "tables", "live", "alike",
                     "keeper", "texts", "desk"):
            self.assertIn(name + ".py", names)


if __name__ == "__main__":
    unittest.main()
