"""Rules of the language that a walk over the source can see.

They are L1, L2, L5 to L8, L10, L12, L14 to L18, L20, L22 and L24 to L27, as far as such a walk can see them.
"""

import ast
import builtins
import pathlib
import re
import unittest

PACKAGE = pathlib.Path(__file__).resolve().parent.parent / "curdcellar"

NODES = set("""
Module Expr Constant Name Load Store alias ImportFrom FunctionDef arguments arg Lambda ClassDef Assign AugAssign
If While For Return Break Continue Pass Raise Try ExceptHandler Call keyword Attribute Subscript Slice List Tuple Dict
Set ListComp comprehension IfExp BoolOp And Or UnaryOp Not USub UAdd Invert BinOp Add Sub Mult FloorDiv Mod Pow
BitAnd BitOr BitXor LShift RShift Compare Eq NotEq Lt LtE Gt GtE In NotIn Is IsNot JoinedStr FormattedValue
""".split())

OWN_NAMES = set("""
len range enumerate zip min max sum abs sorted reversed int str bool list tuple dict set frozenset isinstance ord
repr any all divmod Exception ValueError TypeError KeyError IndexError LookupError ZeroDivisionError ArithmeticError
OverflowError RuntimeError NotImplementedError AttributeError StopIteration
""".split())

OWN_METHODS = set("""
append clear copy count endswith extend find get index insert isalnum isalpha isdigit islower isspace isupper items
join keys ljust lower lstrip partition pop remove replace reverse rfind rjust rpartition rsplit rstrip setdefault
split splitlines startswith strip update upper values zfill bit_length
""".split())

UNUSED_NAMES = set("""
register mro elements open input version_info with_traceback add_note format format_map attrgetter breakpoint builtins
compile copyright credits delattr dir eval exec exit gc getattr globals hasattr help id importlib license locals
methodcaller os quit setattr super vars sys
""".split())

BANNED_WORDS = re.compile(
    r"\b(type|typing|typing_extensions|enum|Enum|IntEnum|StrEnum|Flag|IntFlag|Generic|Protocol|ABC|ABCMeta|namedtuple"
    r"|NamedTuple|TypedDict|TYPE_CHECKING|abstractmethod)\b|dataclass|overload|contextmanager")

UNUSED_VALUES = set("""
items keys values pop update append clear extend insert remove reverse setdefault sort args encode format
""".split())
FREE_VALUES = ("count", "index", "title", "find", "get", "join", "lower", "upper", "split", "strip", "copy", "add")
OWN_KINDS = (str, int, list, dict, set, bytes)

KEYWORDS = {"sorted": ("key", "reverse"), "min": ("key", "default"), "max": ("key", "default"), "sum": ("start",),
            "enumerate": ("start",), "zip": ("strict",)}

DUNDERS = ("__init__", "__eq__", "__repr__", "__str__", "__len__", "__all__", "__version__")


def text_faults(source):
    lines = source.split("\n")
    if len(source.splitlines()) > 400:
        yield "L10 file too long"
    for number, line in enumerate(lines, start=1):
        if len(line) > 120:
            yield f"L10 line {number} too long"
        if any(not " " <= sign <= "~" for sign in line):
            yield f"L14 line {number} has an odd sign"
        if BANNED_WORDS.search(line):
            yield f"L17 line {number} has a banned word"


def name_faults(name):
    if name.startswith("_") and name not in DUNDERS:
        yield f"L12 name {name}"
    if name in UNUSED_NAMES:
        yield f"L17 name {name}"


def import_faults(node, tree):
    if node not in tree.body:
        yield "L2 import not at the top"
    if node.level or not (node.module == "__future__" or str(node.module).startswith("curdcellar.")):
        yield f"L2 import from {node.module}"
    if any(alias.name == "*" for alias in node.names):
        yield "L2 import of all"


def def_faults(node):
    yield from name_faults(node.name)
    if node.decorator_list:
        yield f"L4 decorator on {node.name}"
    if isinstance(node, ast.ClassDef):
        if any(not isinstance(part, (ast.FunctionDef, ast.Pass)) for part in node.body):
            yield f"L5 value in class {node.name}"
        if len(node.bases) > 1:
            yield f"L5 bases of {node.name}"
        return
    if node.end_lineno - node.lineno + 1 > 40:
        yield f"L10 function {node.name} too long"
    if node.args.vararg or node.args.kwarg or node.args.kwonlyargs or node.args.posonlyargs:
        yield f"L4 parameters of {node.name}"


def bound_names(tree):
    for node in ast.walk(tree):
        if isinstance(node, (ast.FunctionDef, ast.ClassDef)):
            yield node.name
        elif isinstance(node, ast.arg):
            yield node.arg
        elif isinstance(node, ast.Name) and isinstance(node.ctx, ast.Store):
            yield node.id
        elif isinstance(node, ast.alias):
            yield node.asname or node.name
        elif isinstance(node, ast.ExceptHandler) and node.name:
            yield node.name


def taken_names(tree):
    """Names of a file that no parameter and no local may have: its classes and its imports."""
    for node in tree.body:
        if isinstance(node, ast.ClassDef):
            yield node.name
        elif isinstance(node, ast.ImportFrom):
            for alias in node.names:
                yield alias.asname or alias.name


def local_names(tree):
    for node in ast.walk(tree):
        if isinstance(node, ast.arg):
            yield node.arg
        elif isinstance(node, ast.Name) and isinstance(node.ctx, ast.Store):
            yield node.id


def value_faults(name):
    if name in UNUSED_VALUES or name not in FREE_VALUES and any(hasattr(kind, name) for kind in OWN_KINDS):
        yield f"L26 value {name}"


def call_faults(node):
    if isinstance(node.func, ast.Name) and node.func.id in OWN_NAMES:
        for keyword in node.keywords:
            if keyword.arg not in KEYWORDS.get(node.func.id, ()):
                yield f"L22 keyword {keyword.arg}"


def set_calls(tree):
    """Calls of set, and those of them that stand where a set may stand."""
    calls, right = set(), set()
    for node in ast.walk(tree):
        if isinstance(node, ast.Call) and isinstance(node.func, ast.Name):
            if node.func.id == "set":
                calls.add(node)
            elif node.func.id in ("sorted", "len"):
                right.update(ast.walk(node.args[0]) if isinstance(node.args[0], ast.BinOp) else node.args[:1])
        elif isinstance(node, ast.Compare):
            right.update(node.comparators + [node.left])
    return calls - right


def constant_faults(node):
    if not (node.value is None or isinstance(node.value, (bool, int, str))):
        yield f"L7 value {node.value!r}"
    if isinstance(node.value, str) and "%" in node.value:
        yield "L27 per cent sign in a text"


def node_faults(node, tree, bound):
    kind = node.__class__.__name__
    if kind not in NODES:
        yield f"L6 or L7 {kind}"
    if isinstance(node, ast.ImportFrom):
        yield from import_faults(node, tree)
    if isinstance(node, (ast.FunctionDef, ast.ClassDef)):
        yield from def_faults(node)
    if isinstance(node, ast.Constant):
        yield from constant_faults(node)
    if isinstance(node, ast.Name) and node.id not in bound | OWN_NAMES:
        yield f"L8 name {node.id}"
    if isinstance(node, ast.Attribute):
        yield from name_faults(node.attr)
        if isinstance(node.ctx, ast.Store):
            yield from value_faults(node.attr)
    if isinstance(node, ast.FormattedValue) and not isinstance(node.value, ast.Name):
        yield "L7 more than a name in an f-string"
    if isinstance(node, ast.ListComp) and (len(node.generators) > 1 or len(node.generators[0].ifs) > 1):
        yield "L7 more than one for or if in a list comprehension"
    if isinstance(node, ast.Call):
        yield from call_faults(node)
    if isinstance(node, ast.Assign) and len(node.targets) > 1:
        yield "L6 more targets than one"
    if isinstance(node, (ast.For, ast.While)) and node.orelse or isinstance(node, ast.Try) and node.finalbody:
        yield "L6 else behind a loop, or finally"
    if isinstance(node, ast.Compare) and any(isinstance(sign, (ast.Is, ast.IsNot)) for sign in node.ops):
        if not any(isinstance(side, ast.Constant) for side in [node.left] + node.comparators):
            yield "L20 is between two values"


def language_faults(source, own_methods=()):
    tree = ast.parse(source)
    bound = set(bound_names(tree))
    found = list(text_faults(source))
    found.extend(f"L15 name {name}" for name in set(local_names(tree)) & set(taken_names(tree)))
    found.extend("L24 set" for node in set_calls(tree))
    for name in bound:
        found.extend(name_faults(name))
        if name in dir(builtins):
            found.append(f"L15 name {name}")
    for node in ast.walk(tree):
        found.extend(node_faults(node, tree, bound))
        if isinstance(node, ast.Call) and isinstance(node.func, ast.Attribute):
            if node.func.attr not in OWN_METHODS | set(own_methods) | {"__init__"}:
                found.append(f"L25 method {node.func.attr}")
    return found


def package_trees():
    for path in PACKAGE.rglob("*.py"):
        yield ast.parse(path.read_text("utf-8"))


def methods_of(tree):
    for node in ast.walk(tree):
        if isinstance(node, ast.ClassDef):
            for part in node.body:
                if isinstance(part, ast.FunctionDef):
                    yield part.name


def values_of(tree):
    for node in ast.walk(tree):
        if isinstance(node, ast.Attribute) and isinstance(node.ctx, ast.Store):
            yield node.attr


def drawn_files(tree):
    return {node.module for node in tree.body if isinstance(node, ast.ImportFrom)}


class Language(unittest.TestCase):
    def test_files(self):
        self.assertTrue((PACKAGE / "__init__.py").is_file())
        for path in PACKAGE.iterdir():
            if path.name != "__pycache__":
                with self.subTest(path=path.name):
                    self.assertRegex(path.name, r"\A([a-z][a-z0-9_]*|__init__)\.py\Z")

    def test_sources(self):
        own_methods = [name for tree in package_trees() for name in methods_of(tree)]
        for path in sorted(PACKAGE.glob("*.py")):
            with self.subTest(path=path.name):
                self.assertEqual(language_faults(path.read_text("utf-8"), own_methods), [])

    def test_no_name_is_a_method_and_a_value(self):
        methods = {name for tree in package_trees() for name in methods_of(tree)}
        held = {name for tree in package_trees() for name in values_of(tree)}
        self.assertEqual(methods & held, set())

    def test_no_file_draws_from_itself_in_some_steps(self):
        drawn = {"curdcellar." + path.stem: drawn_files(ast.parse(path.read_text("utf-8")))
                 for path in PACKAGE.glob("*.py")}
        for name in drawn:
            reached, waiting = set(), list(drawn[name])
            while waiting:
                other = waiting.pop()
                if other not in reached:
                    reached.add(other)
                    waiting.extend(drawn.get(other, ()))
            self.assertNotIn(name, reached)

    def test_faults_are_seen(self):
        for source in (
            "import os\n", "from random import choice\n", "from curdcellar.errors import *\n",
            "def f():\n    from curdcellar.errors import Gone\n    return Gone\n",
            "X = 0.5\n", "X = 4 / 2\n", "X = {n: n for n in [1]}\n", "def f(*many):\n    return many\n",
            "def f(a):\n    with a:\n        pass\n", "def f(a):\n    yield a\n", "def f(a):\n    assert a\n",
            "def f():\n    return print(1)\n", "def f(min):\n    return min\n", "def _f():\n    return 1\n",
            "def f(a, b):\n    return a is b\n", "def f(a):\n    a.sort()\n", "def f(a):\n    return a.format(1)\n",
            "def f(a):\n    b = c = a\n    return b\n", "# a type\n", "# " + "x" * 120 + "\n", "# \u00e9\n", "X = '%'\n",
            "class C:\n    X = 1\n", "class C:\n    'text'\n", "def f(a):\n    a.sort = 1\n", "def f(a):\n    a.hex = 1\n",
            "def f(a):\n    return f'{a.b}'\n", "X = [a for a in [1] for b in [2]]\n",
            "from curdcellar.gaps import kept\n\n\ndef f(kept):\n    return kept\n",
            "def f(a):\n    b = set(a)\n    return b\n", "def f(a):\n    return int(a, base=3)\n",
            "def f():\n" + "    pass\n" * 40, "# x\n" * 401, "#\tx\n",
        ):
            with self.subTest(source=source[:60]):
                self.assertNotEqual(language_faults(source), [])


if __name__ == "__main__":
    unittest.main()
