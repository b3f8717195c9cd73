"""Point 1 (no clock, no chance, no files), and the rules for the package's files that a walk can see."""

import ast
import builtins
import pathlib
import re
import unittest

PACKAGE = pathlib.Path(__file__).resolve().parent.parent / "copydesks"

BUILTINS = set("""len range enumerate zip min max sum abs sorted reversed int str bool list tuple dict set frozenset
isinstance ord repr any all divmod Exception ValueError TypeError KeyError IndexError LookupError ZeroDivisionError
ArithmeticError OverflowError RuntimeError NotImplementedError AttributeError StopIteration""".split())

METHODS = set("""append clear copy count endswith extend find get index insert isalnum isalpha isdigit islower isspace
isupper items join keys ljust lower lstrip partition pop remove replace reverse rfind rjust rpartition rsplit rstrip
setdefault split splitlines startswith strip update upper values zfill bit_length""".split())

NODES = set("""Module FunctionDef ClassDef arguments arg Return Assign AugAssign For While If Raise Try ExceptHandler
ImportFrom alias Expr Pass Break Continue BoolOp And Or BinOp Add Sub Mult FloorDiv Mod Pow LShift RShift BitOr BitXor
BitAnd UnaryOp Invert Not UAdd USub Lambda IfExp Dict ListComp comprehension Compare Eq NotEq Lt LtE Gt GtE Is IsNot In
NotIn Call keyword FormattedValue JoinedStr Constant Attribute Subscript Name List Tuple Slice Load Store""".split())

WORDS = """type typing typing_extensions enum Enum IntEnum StrEnum Flag IntFlag Generic Protocol ABC ABCMeta namedtuple
NamedTuple TypedDict TYPE_CHECKING abstractmethod""".split()

OUT_OF_USE = set("""register mro elements open input version_info with_traceback add_note format format_map""".split())

TWO_UNDERSCORES = set("__init__ __eq__ __repr__ __str__ __len__ __all__ __version__".split())


def names_in(node):
    """The names that a node binds, reads or calls."""
    if isinstance(node, ast.Name):
        return [node.id]
    if isinstance(node, ast.Attribute):
        return [node.attr]
    if isinstance(node, ast.arg):
        return [node.arg]
    if isinstance(node, (ast.FunctionDef, ast.ClassDef)):
        return [node.name]
    if isinstance(node, ast.ExceptHandler) and node.name:
        return [node.name]
    return []


def methods_of(trees):
    return {d.name for tree in trees for c in ast.walk(tree) if isinstance(c, ast.ClassDef)
            for d in c.body if isinstance(d, ast.FunctionDef)}


def faults_of_text(text):
    faults = []
    lines = text.split("\n")
    if any(not " " <= sign <= "~" for line in lines for sign in line):
        faults.append("a sign outside the plain ones")
    if len(lines) > 401 or any(len(line) > 120 for line in lines):
        faults.append("too long a file or line")
    faults += [f"the word {word}" for word in WORDS if re.search(rf"\b{word}\b", text)]
    faults += [f"the word {word}" for word in ("dataclass", "overload", "contextmanager") if word in text]
    return faults


def faults_of_import(node):
    if node.level or not (node.module or "").startswith("copydesks."):
        return [f"an import from {node.module}"]
    return [f"an import of {alias.name}" for alias in node.names if alias.name == "*"]


def faults_of_node(node, own_methods):
    faults = []
    if node.__class__.__name__ not in NODES:
        faults.append(f"a {node.__class__.__name__}")
    for name in names_in(node):
        if name in OUT_OF_USE or (name.startswith("_") and name not in TWO_UNDERSCORES):
            faults.append(f"the name {name}")
    if isinstance(node, ast.Name) and hasattr(builtins, node.id):
        if node.id not in BUILTINS or not isinstance(node.ctx, ast.Load):
            faults.append(f"the name {node.id}")
    if isinstance(node, ast.ImportFrom):
        faults += faults_of_import(node)
    if isinstance(node, ast.FunctionDef):
        if node.end_lineno - node.lineno >= 40 or node.decorator_list or node.args.vararg or node.args.kwarg:
            faults.append(f"the form of {node.name}")
    if isinstance(node, ast.Call) and isinstance(node.func, ast.Attribute):
        if node.func.attr not in METHODS | own_methods | {"__init__"}:
            faults.append(f"the method {node.func.attr}")
    if isinstance(node, ast.Constant) and isinstance(node.value, (float, bytes, complex)):
        faults.append(f"the value {node.value!r}")
    return faults


def faults_of_comparison(node):
    """`is` stands beside None, True and False alone."""
    sides = [node.left] + node.comparators
    return ["an is between other things" for place, sign in enumerate(node.ops)
            if isinstance(sign, (ast.Is, ast.IsNot))
            and not any(isinstance(side, ast.Constant) and side.value in (None, True, False)
                        for side in sides[place:place + 2])]


def local_names(tree):
    """Parameters, and the names that are bound within functions."""
    names = set()
    for function in ast.walk(tree):
        if isinstance(function, (ast.FunctionDef, ast.Lambda)):
            names |= {node.arg for node in ast.walk(function) if isinstance(node, ast.arg)}
            names |= {node.id for node in ast.walk(function)
                      if isinstance(node, ast.Name) and isinstance(node.ctx, ast.Store)}
    return names


def faults_of_tree(tree):
    faults = [fault for node in ast.walk(tree) if isinstance(node, ast.Compare) for fault in faults_of_comparison(node)]
    tops = [thing for thing in tree.body if not isinstance(thing, (ast.ImportFrom, ast.FunctionDef, ast.ClassDef))]
    faults += [f"a {thing.__class__.__name__} at the top" for thing in tops
               if not isinstance(thing, ast.Assign) and not is_docstring(thing)]
    taken = {thing.name for thing in tree.body if isinstance(thing, ast.ClassDef)}
    taken |= {alias.asname or alias.name for thing in tree.body if isinstance(thing, ast.ImportFrom)
              for alias in thing.names}
    faults += [f"the local name {name}" for name in sorted(local_names(tree))
               if name in taken or hasattr(builtins, name)]
    inner = sum(isinstance(node, ast.ImportFrom) for node in ast.walk(tree))
    if inner > sum(isinstance(thing, ast.ImportFrom) for thing in tree.body):
        faults.append("an import within a function")
    return faults


def is_docstring(thing):
    return isinstance(thing, ast.Expr) and isinstance(thing.value, ast.Constant) and isinstance(thing.value.value, str)


def values_of(trees):
    """The values that objects bear: attributes that something is stored under."""
    return {node.attr for tree in trees for node in ast.walk(tree)
            if isinstance(node, ast.Attribute) and isinstance(node.ctx, ast.Store)}


def drawn_from(tree):
    """For each name that a file draws, the file of the package that it comes from."""
    return {alias.name: node.module.split(".", 1)[1] + ".py" for node in ast.walk(tree)
            if isinstance(node, ast.ImportFrom) for alias in node.names}


def defined_in(tree):
    names = {thing.name for thing in tree.body if isinstance(thing, (ast.FunctionDef, ast.ClassDef))}
    return names | {target.id for thing in tree.body if isinstance(thing, ast.Assign) for target in thing.targets}


def faults_of(text, own_methods=frozenset()):
    tree = ast.parse(text)
    return (faults_of_text(text) + faults_of_tree(tree)
            + [fault for node in ast.walk(tree) for fault in faults_of_node(node, own_methods)])


class TestPackage(unittest.TestCase):
    def setUp(self):
        self.files = sorted(PACKAGE.glob("*.py"))
        self.assertIn(PACKAGE / "__init__.py", self.files)
        self.texts = {path.name: path.read_text(encoding="utf-8") for path in self.files}
        self.trees = {name: ast.parse(text) for name, text in self.texts.items()}

    def test_nothing_but_python_files_lies_in_it(self):
        others = [path.name for path in PACKAGE.iterdir() if path not in self.files and path.name != "__pycache__"]
        self.assertEqual(others, [])
        for path in self.files:
            self.assertRegex(path.name, r"^(__init__|__main__|[a-z][a-z0-9_]*)\.py$")

    def test_every_file_keeps_to_the_rules(self):
        own_methods = methods_of(self.trees.values())
        for name, text in self.texts.items():
            with self.subTest(file=name):
                self.assertEqual(faults_of(text, own_methods), [])

    def test_no_name_is_a_method_in_one_class_and_a_value_in_another(self):
        self.assertEqual(methods_of(self.trees.values()) & values_of(self.trees.values()), set())

    def test_names_are_drawn_from_the_file_that_defines_them(self):
        for name, tree in self.trees.items():
            for drawn, source in drawn_from(tree).items():
                with self.subTest(file=name, drawn=drawn):
                    self.assertIn(drawn, defined_in(self.trees[source]))

    def test_no_two_files_draw_from_one_another(self):
        sources = {name: set(drawn_from(tree).values()) for name, tree in self.trees.items()}
        for step in sources:
            for name in sources:
                sources[name] |= {further for source in list(sources[name]) for further in sources[source]}
        self.assertEqual([name for name in sources if name in sources[name]], [])


class TestTheWalkItself(unittest.TestCase):
    def test_plain_code_passes(self):
        self.assertEqual(faults_of('"""Told."""\n\n\ndef twice(number):\n    return number + number\n'), [])

    def test_each_of_these_is_found(self):
        for text in ("import time\n", "import random\n", "from os import path\n", "from copydesks.desks import *\n",
                     "from . import errors\n", "def f():\n    return open('a')\n", "def f():\n    return id(1)\n",
                     "def f(x):\n    return x / 2\n", "X = 1.5\n", "def f(*xs):\n    return xs\n",
                     "def _f():\n    return 1\n", "def f(x):\n    assert x\n", "def f(x):\n    return {x, 1}.sort()\n",
                     "def f(x):\n    return (y for y in x)\n", "# a type\n", "X = '\u00e4'\n", "X =\t1\n",
                     "def f():\n    len = 1\n    return len\n", "def f(hash):\n    return hash\n",
                     "def f(x, y):\n    return x is y\n", "print(1)\n", "for x in [1]:\n    pass\n",
                     "def f():\n    from copydesks.desks import Desk\n    return Desk()\n",
                     "from copydesks.desks import Desk\n\n\ndef f(Desk):\n    return Desk\n",
                     "class Box:\n    pass\n\n\ndef f(x):\n    return [Box for Box in x]\n"):
            with self.subTest(text=text):
                self.assertNotEqual(faults_of(text), [])


if __name__ == "__main__":
    unittest.main()
