"""The form of the package's code, as far as it is looked at here.

Looked at, if not in every word: L1 to L8, L10, L12, L14 to L18, L20, L21, L25 to L27; L9 through L2 and L8.
Not looked at, and left to the reader: L11, L13, L19, L22 to L24, L28.
"""

import ast
import builtins
import pathlib
import re
import unittest

ROOT = pathlib.Path(__file__).resolve().parent.parent
PACKAGE = ROOT / "surelytold"

BUILTINS = set("""
    len range enumerate zip min max sum abs sorted reversed int str bool list tuple dict set frozenset isinstance ord
    repr any all divmod Exception ValueError TypeError KeyError IndexError LookupError ZeroDivisionError
    ArithmeticError OverflowError RuntimeError NotImplementedError AttributeError StopIteration
""".split())
METHODS = set("""
    append clear copy count endswith extend find get index insert isalnum isalpha isdigit islower isspace isupper items
    join keys ljust lower lstrip partition pop remove replace reverse rfind rjust rpartition rsplit rstrip setdefault
    split splitlines startswith strip update upper values zfill bit_length
""".split())
SPECIAL_METHODS = {"__init__", "__eq__", "__repr__", "__str__", "__len__"}
VALUES_TAKEN = {name for kind in (str, int, list, dict, set, bytes, tuple) for name in vars(kind)}
VALUES_FREE = set("count index title find get join lower upper split strip copy add".split())
NAMES_NOT_USED = set("""
    register mro elements open input version_info with_traceback add_note attrgetter breakpoint builtins compile
    copyright credits delattr dir eval exec exit gc getattr globals hasattr help id importlib license locals
    methodcaller os quit setattr super type vars sys
""".split())
WORDS_NOT_USED = set("""
    type typing typing_extensions enum Enum IntEnum StrEnum Flag IntFlag Generic Protocol ABC ABCMeta namedtuple
    NamedTuple TypedDict TYPE_CHECKING abstractmethod
""".split())
STATEMENTS = (
    ast.FunctionDef, ast.ClassDef, ast.ImportFrom, ast.Assign, ast.AugAssign, ast.If, ast.While, ast.For, ast.Return,
    ast.Break, ast.Continue, ast.Pass, ast.Raise, ast.Try, ast.Expr,
)
EXPRESSIONS = (
    ast.Constant, ast.Name, ast.Attribute, ast.Subscript, ast.Slice, ast.Call, ast.BinOp, ast.UnaryOp, ast.BoolOp,
    ast.Compare, ast.IfExp, ast.List, ast.Tuple, ast.Dict, ast.Set, ast.ListComp, ast.Lambda, ast.JoinedStr,
    ast.FormattedValue,
)
FILE_NAMES_NOT_USED = re.compile(r"(test|tests|testing|test_.*|site|conftest|sitecustomize|usercustomize)$")


def is_text(node):
    return isinstance(node, ast.Expr) and isinstance(node.value, ast.Constant) and isinstance(node.value.value, str)


def is_plain_value(node, defined):
    if isinstance(node, ast.UnaryOp) and isinstance(node.op, ast.USub):
        node = node.operand
    if isinstance(node, ast.Constant):
        return node.value is None or isinstance(node.value, (int, str))
    if isinstance(node, (ast.List, ast.Tuple)):
        return all(is_plain_value(part, defined) for part in node.elts)
    if isinstance(node, ast.Dict):
        return all(is_plain_value(part, defined) for part in node.keys + node.values)
    return isinstance(node, ast.Name) and node.id in defined


def top_faults(tree):
    defined = []
    bound = []
    for place, node in enumerate(tree.body):
        if isinstance(node, ast.Assign):
            if len(node.targets) != 1 or not isinstance(node.targets[0], ast.Name):
                yield "L3", node
            elif not is_plain_value(node.value, defined):
                yield "L3", node
            else:
                bound.append(node.targets[0].id)
        elif isinstance(node, ast.FunctionDef):
            defined.append(node.name)
            bound.append(node.name)
        elif isinstance(node, ast.ClassDef):
            bound.append(node.name)
        elif isinstance(node, ast.ImportFrom):
            bound.extend(part.asname or part.name for part in node.names)
        elif not (place == 0 and is_text(node)):
            yield "L3", node
    if len(bound) != len(set(bound)):
        yield "L15", tree


def import_faults(tree):
    top = [node for node in tree.body if isinstance(node, ast.ImportFrom)]
    for node in ast.walk(tree):
        if isinstance(node, ast.Import):
            yield "L16", node
        if isinstance(node, ast.ImportFrom):
            names = [part.name for part in node.names]
            if node not in top or node.level or "*" in names or not (node.module or "").startswith("surelytold."):
                yield "L2", node


def def_faults(node):
    told = node.args
    if told.vararg or told.kwarg or told.kwonlyargs or told.posonlyargs or node.decorator_list:
        yield "L4", node
    if node.returns or any(arg.annotation for arg in told.args):
        yield "L21", node
    if node.end_lineno - node.lineno + 1 > 40:
        yield "L10", node


def class_faults(node):
    if len(node.bases) > 1 or node.keywords or node.decorator_list:
        yield "L5", node
    names = []
    for part in node.body:
        if isinstance(part, ast.FunctionDef):
            names.append(part.name)
            if part.name.startswith("__") and part.name not in SPECIAL_METHODS:
                yield "L5", part
        elif not isinstance(part, ast.Pass):
            yield "L5", part
    if len(names) != len(set(names)):
        yield "L18", node


def statement_faults(node):
    if isinstance(node, ast.stmt) and not isinstance(node, STATEMENTS):
        yield "L6", node
    if isinstance(node, ast.Assign) and len(node.targets) != 1:
        yield "L6", node
    if isinstance(node, (ast.For, ast.While)) and node.orelse:
        yield "L6", node
    if isinstance(node, ast.Try) and (node.finalbody or any(part.type is None for part in node.handlers)):
        yield "L6", node
    if isinstance(node, ast.Expr) and not isinstance(node.value, ast.Call) and not is_text(node):
        yield "L6", node
    if isinstance(node, ast.FunctionDef):
        yield from def_faults(node)
    if isinstance(node, ast.ClassDef):
        yield from class_faults(node)


def expression_faults(node):
    if isinstance(node, ast.expr) and not isinstance(node, EXPRESSIONS):
        yield "L7", node
    if isinstance(node, ast.Constant) and not isinstance(node.value, (int, str, type(None))):
        yield "L7", node
    if isinstance(node, ast.Constant) and isinstance(node.value, str) and "%" in node.value:
        yield "L27", node
    if isinstance(node, (ast.BinOp, ast.AugAssign)) and isinstance(node.op, (ast.Div, ast.MatMult)):
        yield "L7", node
    if isinstance(node, ast.BinOp) and isinstance(node.op, ast.Pow):
        if not isinstance(node.right, ast.Constant) or not 0 <= node.right.value <= 64:
            yield "L27", node
    if isinstance(node, ast.ListComp) and (len(node.generators) > 1 or len(node.generators[0].ifs) > 1):
        yield "L7", node
    if isinstance(node, ast.FormattedValue) and not isinstance(node.value, ast.Name):
        yield "L7", node
    if isinstance(node, ast.Compare):
        sides = [node.left] + node.comparators
        for place, sign in enumerate(node.ops):
            if isinstance(sign, (ast.Is, ast.IsNot)):
                near = [side.value for side in sides[place:place + 2] if isinstance(side, ast.Constant)]
                if not any(value is None or value is True or value is False for value in near):
                    yield "L20", node


def given_names(node):
    """The names that this node binds or uses by itself."""
    if isinstance(node, ast.Name):
        return [node.id]
    if isinstance(node, ast.Attribute):
        return [node.attr]
    if isinstance(node, (ast.FunctionDef, ast.ClassDef)):
        return [node.name]
    if isinstance(node, ast.arg):
        return [node.arg]
    return []


def name_faults(node):
    own = dir(builtins)
    for name in given_names(node):
        if name not in SPECIAL_METHODS and not re.fullmatch(r"[A-Za-z][A-Za-z0-9_]*", name):
            yield "L12", node
        if name in NAMES_NOT_USED:
            yield "L17", node
    if isinstance(node, ast.Name) and node.id in own:
        if node.id not in BUILTINS:
            yield "L8", node
        if not isinstance(node.ctx, ast.Load):
            yield "L15", node
    if isinstance(node, ast.arg) and node.arg in own:
        yield "L15", node


def method_faults(tree, methods):
    for node in ast.walk(tree):
        if isinstance(node, ast.Call) and isinstance(node.func, ast.Attribute):
            if node.func.attr not in METHODS and node.func.attr not in methods:
                yield "L25", node
        if isinstance(node, ast.Attribute) and isinstance(node.ctx, ast.Store):
            if node.attr in VALUES_TAKEN - VALUES_FREE:
                yield "L26", node
            if node.attr in methods:
                yield "L18", node
    for name in methods:
        if name in VALUES_TAKEN - METHODS - SPECIAL_METHODS - {"add", "discard"} or name in BUILTINS:
            yield "L26", tree


def text_faults(source):
    lines = source.split("\n")
    if len(lines) > 401:
        yield "L10", 0
    for number, line in enumerate(lines, start=1):
        if len(line) > 120 or "\t" in line:
            yield "L10", number
        if re.search(r"[^ -~]", line):
            yield "L14", number
        if WORDS_NOT_USED & set(re.findall(r"\w+", line)) or re.search("dataclass|overload|contextmanager", line):
            yield "L17", number


def methods_of(trees):
    classes = [node for tree in trees for node in ast.walk(tree) if isinstance(node, ast.ClassDef)]
    return {part.name for node in classes for part in node.body if isinstance(part, ast.FunctionDef)}


def faults(source, methods=None):
    """The rules that this file's text breaks, with the lines."""
    tree = ast.parse(source)
    if methods is None:
        methods = methods_of([tree])
    found = list(top_faults(tree)) + list(import_faults(tree)) + list(method_faults(tree, methods))
    for node in ast.walk(tree):
        found.extend(statement_faults(node))
        found.extend(expression_faults(node))
        found.extend(name_faults(node))
    placed = [(rule, getattr(node, "lineno", 0)) for rule, node in found]
    return sorted(set(placed + list(text_faults(source))))


def package_files():
    return sorted(path for path in PACKAGE.rglob("*") if "__pycache__" not in path.parts)


def sources():
    return {path.stem: path.read_bytes().decode("utf-8") for path in package_files() if path.suffix == ".py"}


class PackageFiles(unittest.TestCase):
    def test_plain_files_alone(self):
        for path in package_files():
            self.assertTrue(path.is_file() and re.fullmatch(r"[a-z0-9_]+\.py", path.name), path)
            self.assertNotIn(path.stem, dir(builtins))
            self.assertIsNone(FILE_NAMES_NOT_USED.match(path.stem), path)
        self.assertTrue((PACKAGE / "__init__.py").is_file())
        self.assertTrue((PACKAGE / "terms.py").is_file())

    def test_one_package(self):
        inits = [path for path in ROOT.rglob("__init__.py") if ".git" not in path.parts]
        self.assertEqual(inits, [PACKAGE / "__init__.py"])

    def test_no_file_breaks_a_rule(self):
        methods = methods_of([ast.parse(source) for source in sources().values()])
        for name, source in sources().items():
            self.assertEqual(faults(source, methods), [], name)

    def test_imports_come_from_the_file_that_defines_the_name(self):
        for name, drawn in self.drawn_names():
            tree = ast.parse(sources()[drawn.module.split(".")[1]])
            defined = {node.name for node in tree.body if isinstance(node, (ast.FunctionDef, ast.ClassDef))}
            for node in tree.body:
                if isinstance(node, ast.Assign):
                    defined.add(node.targets[0].id)
            for part in drawn.names:
                self.assertIn(part.name, defined, name)

    def test_no_two_files_draw_from_one_another(self):
        below = {name: {"__init__"} - {name} for name in sources()}
        for name, drawn in self.drawn_names():
            below[name].add(drawn.module.split(".")[1])
        while below:
            free = [name for name, drawn in below.items() if not drawn & set(below)]
            self.assertNotEqual(free, [], f"files that draw from one another: {sorted(below)}")
            below = {name: drawn for name, drawn in below.items() if name not in free}

    def drawn_names(self):
        for name, source in sources().items():
            for node in ast.parse(source).body:
                if isinstance(node, ast.ImportFrom):
                    yield name, node


class TheRulesAreSeen(unittest.TestCase):
    """The look at the files would be worth nothing if it saw nothing."""

    def test_code_outside_the_rules(self):
        for rule, source in (
            ("L2", "from os import path\n"),
            ("L2", "def f():\n    from surelytold.house import House\n    return House\n"),
            ("L16", "import os\n"),
            ("L3", "print(1)\n"),
            ("L3", "A = len([])\n"),
            ("L15", "A = 1\nA = 2\n"),
            ("L4", "def f(*xs):\n    return xs\n"),
            ("L5", "class A:\n    x = 1\n"),
            ("L5", "class A:\n    def __iter__(self):\n        return self\n"),
            ("L6", "def f(x):\n    assert x\n"),
            ("L6", "def f():\n    x = y = 1\n    return x + y\n"),
            ("L6", "def f(xs):\n    for x in xs:\n        pass\n    else:\n        pass\n"),
            ("L7", "def f(x):\n    return x / 2\n"),
            ("L7", "A = 1.5\n"),
            ("L7", "def f(xs):\n    return sum(x for x in xs)\n"),
            ("L8", "def f(xs):\n    return map(len, xs)\n"),
            ("L10", "A = 1  #" + "a" * 120 + "\n"),
            ("L10", "def f():\n" + "    pass\n" * 40),
            ("L12", "def f(_x):\n    return _x\n"),
            ("L14", "# \u00e4\n"),
            ("L15", "def f(list):\n    return list\n"),
            ("L17", "# a type of its own\n"),
            ("L17", "def f(x):\n    return x.mro\n"),
            ("L18", "class A:\n    def f(self):\n        self.f = 1\n"),
            ("L20", "def f(x, y):\n    return x is y\n"),
            ("L21", "def f(x: int):\n    return x\n"),
            ("L25", "def f(xs):\n    xs.sort()\n"),
            ("L26", "class A:\n    def __init__(self):\n        self.items = []\n"),
            ("L27", "def f(n):\n    return 2 ** n\n"),
        ):
            self.assertIn(rule, [found for found, place in faults(source)], source)

    def test_code_within_the_rules(self):
        source = '"""Words."""\n\nA = (1, -2)\n\n\ndef f(x):\n    return [A[k] for k in x if k > 0]\n'
        self.assertEqual(faults(source), [])


if __name__ == "__main__":
    unittest.main()
