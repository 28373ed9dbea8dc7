"""Asks of a package's files whether they keep to the rules of the program's language (the part that can be read off).

faults(files) takes a dict from file names to texts and tells a list of (rule, file, line, words). It is rather too
strict than too lax: some forms that the rules allow, but that the package has no use for, are told as faults too.
"""

import ast
import builtins
import re

PACKAGE = "ledpast"
OWN = (
    "len range enumerate zip min max sum abs sorted reversed int str bool bytes list tuple dict set frozenset isinstance "
    "ord repr any all divmod Exception ValueError TypeError KeyError IndexError LookupError ZeroDivisionError "
    "ArithmeticError OverflowError RuntimeError NotImplementedError AttributeError StopIteration"
).split()
METHODS = (
    "append clear copy count endswith extend find get index insert isalnum isalpha isdigit islower isspace isupper items "
    "join keys ljust lower lstrip partition pop remove replace reverse rfind rjust rpartition rsplit rstrip setdefault "
    "split splitlines startswith strip update upper values zfill bit_length"
).split()
CHANGES = "append clear extend insert pop remove reverse setdefault update sort add discard".split()
DUNDERS = "__init__ __eq__ __repr__ __str__ __len__".split()
UNUSED = (
    "register mro elements open input version_info with_traceback add_note attrgetter breakpoint builtins compile "
    "copyright credits delattr dir eval exec exit gc getattr globals hasattr help id importlib license locals "
    "methodcaller os quit setattr super vars sys chr format format_map print args"
).split()
WORDS = re.compile(
    r"\b(type|typing|typing_extensions|enum|Enum|IntEnum|StrEnum|Flag|IntFlag|Generic|Protocol|ABC|ABCMeta|namedtuple"
    r"|NamedTuple|TypedDict|TYPE_CHECKING|abstractmethod)\b|dataclass|overload|contextmanager"
)
FILE_NAMES = re.compile(r"\A(__init__|(?!law_|test_)[a-z][a-z0-9_]*)\.py\Z")
NOT_FILES = ("test", "tests", "testing", "site", "conftest", "sitecustomize", "usercustomize")
ROWS = (
    ast.Assign, ast.AugAssign, ast.If, ast.While, ast.For, ast.Return, ast.Break, ast.Continue, ast.Pass, ast.Raise,
    ast.Try, ast.Assert, ast.Delete, ast.Expr, ast.FunctionDef,
)
PARTS = (
    ast.BoolOp, ast.BinOp, ast.UnaryOp, ast.Lambda, ast.IfExp, ast.Dict, ast.Set, ast.ListComp, ast.SetComp, ast.DictComp,
    ast.Compare, ast.Call, ast.JoinedStr, ast.FormattedValue, ast.Constant, ast.Attribute, ast.Subscript, ast.Name,
    ast.List, ast.Tuple, ast.Slice,
)
SETS = (ast.Set, ast.SetComp)
TAKERS = ("list", "tuple", "dict", "sorted", "sum", "any", "all", "enumerate", "zip", "bytes")
WALKED = ("zip", "enumerate", "reversed", "range")
LOOKS = ("items", "keys", "values")


class Source:
    def __init__(self, name, text):
        self.name, self.text, self.tree = name, text, ast.parse(text)
        for node in ast.walk(self.tree):
            for child in ast.iter_child_nodes(node):
                child.parent = node
        self.nodes = list(ast.walk(self.tree))
        self.defs = self.of(ast.FunctionDef)
        self.imports = self.of(ast.ImportFrom)
        self.classes = [row for row in self.tree.body if isinstance(row, ast.ClassDef)]
        self.drawn = [alias.asname or alias.name for row in self.imports for alias in row.names]
        self.given = [row for row in self.tree.body if isinstance(row, ast.Assign)]
        self.tops = [row.name for row in self.tree.body if isinstance(row, (ast.FunctionDef, ast.ClassDef))]
        self.tops += [target.id for row in self.given for target in row.targets if isinstance(target, ast.Name)]

    def of(self, kinds):
        return [node for node in self.nodes if isinstance(node, kinds)]


class Package:
    def __init__(self, files):
        self.sources = [Source(name, text) for name, text in sorted(files.items())]
        classes = [node for source in self.sources for node in source.classes]
        self.classes = {node.name for node in classes}
        self.methods = {row.name for node in classes for row in node.body if isinstance(row, ast.FunctionDef)}
        self.values = {
            node.attr for source in self.sources for node in source.of(ast.Attribute) if isinstance(node.ctx, ast.Store)
        }
        self.shared = {
            row.targets[0].id for source in self.sources for row in source.given
            if isinstance(row.value, (ast.List, ast.Dict)) and isinstance(row.targets[0], ast.Name)
        }


def called(node):
    """The plain name that a call calls, or None."""
    return node.func.id if isinstance(node, ast.Call) and isinstance(node.func, ast.Name) else None


def is_docstring(row):
    return isinstance(row, ast.Expr) and isinstance(row.value, ast.Constant) and isinstance(row.value.value, str)


def files_and_signs(package, source):
    rows = source.text.split("\n")
    if not FILE_NAMES.match(source.name) or source.name[:-3] in NOT_FILES + tuple(dir(builtins)):
        yield "L14", 1, "a file's name"
    if not re.match(r"\A[\n -~]*\Z", source.text):
        yield "L14", 1, "a sign"
    if len(rows) > 401 or max([len(row) for row in rows]) > 120:
        yield "L10", 1, "too long"
    for node in source.defs:
        if node.end_lineno - node.lineno + 1 > 40:
            yield "L10", node.lineno, "a long function"
    for at, row in enumerate(rows):
        if WORDS.search(row):
            yield "L17", at + 1, "a word"
        if re.search(r"\\[^nt\\\"']", row):
            yield "L27", at + 1, "an escape"


def imports(package, source):
    names = {other.name[:-3]: other for other in package.sources}
    for node in source.of(ast.Import):
        yield "L2", node.lineno, "an import"
    for node in source.imports:
        head, dot, tail = (node.module or "").partition(".")
        if node.level or head != PACKAGE or tail not in names or node.parent != source.tree:
            yield "L2", node.lineno, "an import"
        elif [alias.name for alias in node.names if alias.name not in names[tail].tops]:
            yield "L16", node.lineno, "not from where it is made"
        elif reaches(names, tail, source.name[:-3]):
            yield "L16", node.lineno, "a round of imports"


def reaches(names, begin, end):
    found, waiting = {begin}, [begin]
    while waiting:
        for node in names[waiting.pop()].imports:
            tail = (node.module or "").partition(".")[2]
            if tail in names and tail not in found:
                found.add(tail)
                waiting.append(tail)
    return end in found


def is_plain(node, source, within=False):
    if isinstance(node, ast.Constant):
        return node.value is None or isinstance(node.value, (int, str, bytes))
    if isinstance(node, ast.UnaryOp):
        return isinstance(node.op, ast.USub) and is_plain(node.operand, source)
    if isinstance(node, ast.BinOp):
        return is_plain(node.left, source) and is_plain(node.right, source)
    if isinstance(node, ast.Tuple) or isinstance(node, ast.List) and not within:
        return all([is_plain(part, source, True) for part in node.elts])
    if isinstance(node, ast.Dict) and not within:
        return all([is_plain(part, source, True) for part in node.keys + node.values])
    return isinstance(node, ast.Name) and node.id in source.tops and node.id not in source.drawn


def top(package, source):
    for at, row in enumerate(source.tree.body):
        if isinstance(row, ast.Assign):
            if len(row.targets) != 1 or not isinstance(row.targets[0], ast.Name) or not is_plain(row.value, source):
                yield "L3", row.lineno, "no plain value"
        elif isinstance(row, ast.ImportFrom):
            if [above for above in source.tree.body[:at] if isinstance(above, (ast.FunctionDef, ast.Assign, ast.ClassDef))]:
                yield "L2", row.lineno, "an import not at the top"
        elif not isinstance(row, (ast.FunctionDef, ast.ClassDef)) and not (at == 0 and is_docstring(row)):
            yield "L3", row.lineno, "a row"
    for name in sorted(set(source.tops + source.drawn)):
        if (source.tops + source.drawn).count(name) > 1:
            yield "L15", 1, f"bound twice: {name}"


def defs_and_classes(package, source):
    for node in source.of((ast.FunctionDef, ast.Lambda)):
        given = node.args
        if given.vararg or given.kwarg or given.posonlyargs or getattr(node, "decorator_list", []):
            yield "L4", node.lineno, "parameters, or a decorator"
        if not all([is_plain(part, source, True) for part in given.defaults + [part for part in given.kw_defaults if part]]):
            yield "L4", node.lineno, "a default"
        if getattr(node, "returns", None) or [part for part in given.args + given.kwonlyargs if part.annotation]:
            yield "L21", node.lineno, "an annotation"
    for node in source.of(ast.ClassDef):
        bases = [base.id if isinstance(base, ast.Name) else "" for base in node.bases]
        if node.decorator_list or node.keywords or len(bases) > 1 or not set(bases) <= package.classes | set(OWN):
            yield "L5", node.lineno, "a base, or a decorator"
        if node.parent != source.tree:
            yield "L15", node.lineno, "a class not at the top"
        names = [row.name for row in node.body if isinstance(row, ast.FunctionDef)]
        if len(names) != len(set(names)):
            yield "L18", node.lineno, "a method twice"
        for at, row in enumerate(node.body):
            if not isinstance(row, ast.FunctionDef) and not (at == 0 and is_docstring(row)):
                yield "L5", row.lineno, "a value in a class"
            elif isinstance(row, ast.FunctionDef) and row.name.startswith("__") and row.name not in DUNDERS:
                yield "L5", row.lineno, "a method with two underscores"
            elif isinstance(row, ast.FunctionDef) and row.name == "__init__":
                for part in ast.walk(row):
                    if isinstance(part, ast.Return) and part.value is not None:
                        yield "L28", part.lineno, "given back by __init__"


def rows_and_parts(package, source):
    for node in source.nodes:
        if isinstance(node, ast.stmt):
            if not isinstance(node, ROWS + (ast.ImportFrom, ast.ClassDef)):
                yield "L6", node.lineno, "a row"
            if getattr(node, "orelse", None) and isinstance(node, (ast.For, ast.While)):
                yield "L6", node.lineno, "else behind a loop"
            if isinstance(node, ast.Expr) and not isinstance(node.value, ast.Call) and not is_docstring(node):
                yield "L6", node.lineno, "a value by itself"
        elif isinstance(node, ast.expr) and not isinstance(node, PARTS):
            yield "L7", node.lineno, "an expression"
        elif isinstance(node, ast.FormattedValue) and node.format_spec is not None:
            yield "L7", node.lineno, "a format"
        elif isinstance(node, ast.BinOp) and isinstance(node.op, (ast.Div, ast.MatMult)):
            yield "L7", node.lineno, "a sign"
        elif isinstance(node, ast.BinOp) and isinstance(node.op, ast.Pow) and not isinstance(node.right, ast.Constant):
            yield "L27", node.lineno, "a power"
        elif isinstance(node, ast.Constant) and isinstance(node.value, (float, complex, type(Ellipsis))):
            yield "L7", node.lineno, "a value"
        elif isinstance(node, ast.Constant) and isinstance(node.value, str) and "%" in node.value:
            yield "L27", node.lineno, "a percent sign"
        elif isinstance(node, ast.Compare) and [op for op in node.ops if isinstance(op, (ast.Is, ast.IsNot))]:
            if not [part for part in node.comparators + [node.left] if getattr(part, "value", 0) in (None, True, False)
                    and isinstance(part, ast.Constant) and not isinstance(part.value, str)]:
                yield "L20", node.lineno, "is"
        elif isinstance(node, ast.Set) and len([part for part in node.elts if isinstance(part, ast.Constant)]) > 2:
            yield "L13", node.lineno, "a written set"


def bound_names(source):
    """Each name that is bound somewhere below the file's top, with its line."""
    for node in source.nodes:
        if isinstance(node, ast.Name) and isinstance(node.ctx, ast.Store):
            if not (isinstance(node.parent, ast.Assign) and node.parent.parent == source.tree):
                yield node.id, node.lineno
        elif isinstance(node, ast.arg):
            yield node.arg, node.lineno
        elif isinstance(node, ast.ExceptHandler) and node.name:
            yield node.name, node.lineno
        elif isinstance(node, ast.FunctionDef) and not isinstance(node.parent, (ast.Module, ast.ClassDef)):
            yield node.name, node.lineno


def names(package, source):
    classes = [node.name for node in source.classes]
    for name, line in bound_names(source):
        if name in dir(builtins) or name in classes + source.drawn:
            yield "L15", line, f"the name {name}"
    every = list(bound_names(source)) + [(name, 1) for name in source.tops]
    for name, line in every + [(node.name, node.lineno) for node in source.defs]:
        if not re.match(r"\A[A-Za-z][A-Za-z0-9_]*\Z", name) and name not in DUNDERS:
            yield "L12", line, f"the name {name}"
        if name in UNUSED:
            yield "L17", line, f"the name {name}"
    there = {name for name, line in every}
    for node in source.of(ast.Name):
        if node.id not in there and node.id not in source.drawn + OWN:
            yield "L8", node.lineno, f"the name {node.id}"
        if node.id in package.shared and isinstance(node.ctx, ast.Load) and not only_read(node):
            yield "L15", node.lineno, f"more than read: {node.id}"
        if node.id in classes + source.drawn and node.id in package.classes and not class_place(node):
            yield "L18", node.lineno, f"a class handed on: {node.id}"
        if node.id in OWN and called(node.parent) != node.id and not own_place(node):
            yield "L22", node.lineno, f"not called: {node.id}"


def only_read(node):
    parent = node.parent
    if isinstance(parent, ast.Subscript):
        return parent.value == node and isinstance(parent.ctx, ast.Load)
    if isinstance(parent, ast.Attribute):
        return parent.attr in LOOKS + ("get", "count", "index")
    if isinstance(parent, ast.Call):
        return called(parent) in ("len", "sorted", "list", "tuple", "dict", "enumerate", "zip", "min", "max", "sum")
    return isinstance(parent, (ast.Compare, ast.For, ast.comprehension)) and getattr(parent, "target", None) != node


def class_place(node):
    parent = node.parent
    if isinstance(parent, ast.Attribute):
        return parent.attr == "__init__"
    if isinstance(parent, ast.Tuple):
        parent = parent.parent
    if isinstance(parent, ast.Call):
        return parent.func == node or called(parent) == "isinstance" and parent.args[0] != node
    return isinstance(parent, (ast.ClassDef, ast.ExceptHandler))


def own_place(node):
    parent = node.parent.parent if isinstance(node.parent, ast.Tuple) else node.parent
    if isinstance(parent, ast.Attribute):
        return node.id.endswith("Error") and parent.attr == "__init__"
    if isinstance(parent, ast.keyword):
        return parent.arg == "key" and node.id in ("len", "int", "str", "abs", "sum", "min", "max", "tuple")
    return called(parent) == "isinstance" or isinstance(parent, (ast.ClassDef, ast.ExceptHandler))


def attributes(package, source):
    for node in source.of(ast.Attribute):
        is_call = isinstance(node.parent, ast.Call) and node.parent.func == node
        if node.attr in UNUSED or node.attr.startswith("_") and node.attr != "__init__":
            yield "L17", node.lineno, f"the name {node.attr}"
        elif is_call and node.attr in ("add", "discard"):
            continue
        elif is_call and node.attr not in package.methods and node.attr not in METHODS + ["sort", "__init__"]:
            yield "L25", node.lineno, f"the method {node.attr}"
        elif not is_call and node.attr not in package.values:
            yield "L18", node.lineno, f"the value {node.attr}"
    for name in sorted(package.methods & package.values):
        yield "L18", 1, f"both a method and a value: {name}"
    taken = [name for kind in (str, int, list, dict, set, bytes, tuple) for name in dir(kind)]
    for name in sorted((package.methods | package.values) - set(DUNDERS)):
        if name in taken and not (name in package.methods and name in METHODS + ["add", "discard"]):
            yield "L26", 1, f"the name {name}"


def calls(package, source):
    own = {row.name: row for other in package.sources for row in other.tree.body if isinstance(row, ast.FunctionDef)}
    for node in source.of(ast.Call):
        name = called(node)
        if name in own and not takes(own[name].args, node):
            yield "L22", node.lineno, f"more or less than {name} takes"
        if name in OWN and [word for word in node.keywords if word.arg not in ("key", "reverse", "default", "start", "strict")]:
            yield "L22", node.lineno, f"a keyword at {name}"
        if name == "frozenset":
            yield "L24", node.lineno, "a frozenset"
        if [part for part in node.args if isinstance(part, ast.Starred)] or [word for word in node.keywords if not word.arg]:
            yield "L7", node.lineno, "a star"
        looks = isinstance(node.func, ast.Attribute) and node.func.attr in LOOKS and node.func.attr not in package.methods
        if (name in WALKED or looks) and not walked_at_once(node):
            yield "L23", node.lineno, "kept, not walked"


def takes(given, node):
    least = len(given.args) - len(given.defaults)
    return bool(node.keywords) or least <= len(node.args) <= len(given.args)


def walked_at_once(node):
    parent = node.parent
    if isinstance(parent, (ast.For, ast.comprehension)):
        return parent.iter == node
    if isinstance(parent, ast.Compare):
        return called(node) == "range" and isinstance(parent.ops[0], (ast.In, ast.NotIn))
    if not isinstance(parent, ast.Call) or node not in parent.args:
        return False
    if isinstance(parent.func, ast.Attribute):
        return parent.func.attr == "join" and isinstance(parent.func.value, ast.Constant)
    if called(parent) in ("min", "max"):
        return len(parent.args) == 1
    if called(parent) in ("reversed", "len"):
        return called(node) == "range"
    return called(parent) in TAKERS and parent.args[0] == node


def loops(package, source):
    for node in source.of((ast.For, ast.ListComp, ast.SetComp, ast.DictComp)):
        walks = [node.iter] if isinstance(node, ast.For) else [part.iter for part in node.generators]
        bases = {ast.dump(base) for walk in walks for base in walked_things(walk)}
        for part in [part for row in (node.body if isinstance(node, ast.For) else [node]) for part in ast.walk(row)]:
            if isinstance(part, ast.Subscript) and not isinstance(part.ctx, ast.Load):
                changed = part.value
            elif isinstance(part, ast.Call) and isinstance(part.func, ast.Attribute) and part.func.attr in CHANGES:
                changed = part.func.value
            elif isinstance(part, ast.AugAssign):
                changed = ast.parse(ast.unparse(part.target), mode="eval").body
            else:
                continue
            if ast.dump(changed) in bases:
                yield "L23", part.lineno, "what is walked is changed"


def walked_things(node):
    if called(node) in WALKED:
        return [base for part in node.args for base in walked_things(part)]
    if isinstance(node, ast.Call) and isinstance(node.func, ast.Attribute) and node.func.attr in LOOKS:
        return [node.func.value]
    if isinstance(node, (ast.IfExp, ast.BoolOp)):
        return [base for part in ast.iter_child_nodes(node) if isinstance(part, ast.expr) for base in walked_things(part)]
    return [node] if isinstance(node, (ast.Name, ast.Attribute, ast.Subscript)) else []


def is_set(node):
    return isinstance(node, SETS) or called(node) == "set"


def sets(package, source):
    for node in source.nodes:
        if is_set(node) and not set_place(node):
            yield "L24", node.lineno, "a set out of its place"
    for node in source.defs:
        inner = list(ast.walk(node))
        kept = [row.targets[0].id for row in inner if isinstance(row, ast.Assign) and is_set(row.value)
                and isinstance(row.targets[0], ast.Name)]
        for part in inner:
            if isinstance(part, ast.Attribute) and part.attr in ("add", "discard"):
                if getattr(part.value, "id", None) not in kept:
                    yield "L24", part.lineno, "add of no kept set"
            if isinstance(part, ast.arg) and part.arg in kept:
                yield "L24", part.lineno, "a kept set's name given twice"
            if isinstance(part, ast.Name) and part.id in kept and isinstance(part.ctx, ast.Load) and not kept_use(part):
                yield "L24", part.lineno, "a kept set's use"
        for name in kept:
            if len([part for part in inner if isinstance(part, ast.Name) and part.id == name
                    and not isinstance(part.ctx, ast.Load)]) != 1:
                yield "L24", node.lineno, "a kept set given twice"


def set_place(node):
    parent = node.parent
    if isinstance(parent, ast.BinOp) and isinstance(parent.op, (ast.Sub, ast.BitAnd, ast.BitOr, ast.BitXor)):
        return is_set(parent.left) and is_set(parent.right) and not isinstance(parent.parent, ast.Assign) and set_place(parent)
    if isinstance(parent, ast.Assign):
        return len(parent.targets) == 1 and isinstance(parent.targets[0], ast.Name) and parent.parent.__class__ != ast.Module
    if isinstance(parent, ast.Compare):
        if isinstance(parent.ops[0], (ast.In, ast.NotIn)):
            return parent.left != node
        return is_set(parent.left) and is_set(parent.comparators[0])
    return called(parent) in ("sorted", "len") and node in parent.args


def kept_use(node):
    parent = node.parent
    if isinstance(parent, ast.Attribute):
        row = parent.parent.parent if isinstance(parent.parent, ast.Call) else None
        return parent.attr in ("add", "discard") and isinstance(row, ast.Expr)
    if isinstance(parent, ast.Compare):
        return isinstance(parent.ops[0], (ast.In, ast.NotIn)) and parent.left != node
    if isinstance(parent, (ast.If, ast.While)):
        return parent.test == node
    if isinstance(parent, ast.UnaryOp):
        return isinstance(parent.op, ast.Not)
    return called(parent) in ("sorted", "len")


def errors(package, source):
    for node in source.of(ast.Raise):
        made = called(node.exc) if node.exc is not None else None
        if node.exc is not None and made not in package.classes:
            yield "L19", node.lineno, "raised is no error of the program's own"
    for node in source.of(ast.ExceptHandler):
        parts = node.type.elts if isinstance(node.type, ast.Tuple) else [node.type]
        kinds = [part.id for part in parts if isinstance(part, ast.Name)]
        if not kinds or len(kinds) < len(parts) or not set(kinds) <= package.classes | {"KeyError", "ZeroDivisionError"}:
            yield "L19", node.lineno, "taken by another name"


CHECKS = (
    files_and_signs, imports, top, defs_and_classes, rows_and_parts, names, attributes, calls, loops, sets, errors,
)


def faults(files):
    package = Package(files)
    return [
        (rule, source.name, line, words)
        for source in package.sources for check in CHECKS for rule, line, words in check(package, source)
    ]
