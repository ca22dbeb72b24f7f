"""Holds the package's files to what can be seen at once of ../shared/LANGUAGE.md; the rest is for the reader."""

import ast
import builtins
import pathlib
import re
import unittest

PACKAGE = pathlib.Path(__file__).resolve().parent.parent / "sawsign"
FILES = sorted(PACKAGE.rglob("*.py"))

# L8, without chr (L27) and print (it belongs to __main__.py alone).
OWN_NAMES = set("""
    len range enumerate zip min max sum abs sorted reversed int str bool list tuple dict set frozenset isinstance
    ord repr any all divmod Exception ValueError TypeError KeyError IndexError LookupError ZeroDivisionError
    ArithmeticError OverflowError RuntimeError NotImplementedError AttributeError StopIteration
""".split())
TWO_UNDERSCORES = set("__init__ __eq__ __repr__ __str__ __len__ __all__ __version__ __name__".split())
# L6 and L7; the kinds of comparing, reckoning and reading a name are looked at below.
NODES = set("""
    Module FunctionDef ClassDef ImportFrom alias arguments arg Assign AugAssign If While For Return Break Continue Pass
    Raise Try ExceptHandler Expr Constant Name List Tuple Dict Set BinOp UnaryOp BoolOp Compare IfExp Call keyword
    Attribute Subscript Slice ListComp comprehension JoinedStr FormattedValue Lambda
""".split())
KINDS_LEFT_OUT = (ast.Div, ast.MatMult)
# L17.
WORDS_LEFT_OUT = re.compile(
    r"\b(type|typing|typing_extensions|enum|Enum|IntEnum|StrEnum|Flag|IntFlag|Generic|Protocol|ABC|ABCMeta|namedtuple"
    r"|NamedTuple|TypedDict|TYPE_CHECKING|abstractmethod)\b|dataclass|overload|contextmanager"
)
# L25 and L26, as far as Python's own values have such methods.
METHODS = set("""
    append clear copy count endswith extend find get index insert isalnum isalpha isdigit islower isspace isupper items
    join keys ljust lower lstrip partition pop remove replace reverse rfind rjust rpartition rsplit rstrip setdefault
    split splitlines startswith strip update upper values zfill bit_length add discard title
""".split())
PYTHONS_METHODS = set(name for kind in (str, int, list, tuple, dict, set, bytes) for name in dir(kind))


def faults_of_signs(text):
    lines = text.split("\n")
    if len(lines) > 401:
        yield "L10: more than 400 lines"
    for number, line in enumerate(lines, 1):
        if len(line) > 120:
            yield f"L10: line {number} is too long"
        if any(not " " <= sign <= "~" for sign in line):
            yield f"L14: a sign of line {number}"
        if WORDS_LEFT_OUT.search(line):
            yield f"L17: a word of line {number}"


def names_bound(node):
    if isinstance(node, (ast.FunctionDef, ast.ClassDef)):
        yield node.name
    if isinstance(node, ast.arg):
        yield node.arg
    if isinstance(node, ast.Name) and isinstance(node.ctx, ast.Store):
        yield node.id
    if isinstance(node, ast.alias):
        yield node.asname or node.name
    if isinstance(node, ast.ExceptHandler) and node.name:
        yield node.name


def faults_of_node(node):
    kind = node.__class__.__name__
    plain_kinds = (ast.operator, ast.cmpop, ast.unaryop, ast.boolop, ast.expr_context)
    if isinstance(node, KINDS_LEFT_OUT) or (kind not in NODES and not isinstance(node, plain_kinds)):
        yield f"L6, L7: {kind}"
    if isinstance(node, ast.Constant) and not isinstance(node.value, (int, str, type(None))):
        yield "L7: a value of another kind"
    if isinstance(node, ast.Assign) and len(node.targets) != 1:
        yield "L6: more than one target"
    if isinstance(node, ast.FunctionDef) and node.end_lineno - node.lineno >= 40:
        yield f"L10: {node.name} has more than 40 lines"
    if isinstance(node, (ast.FunctionDef, ast.ClassDef)) and node.decorator_list:
        yield f"L4, L5: a decorator at {node.name}"
    if isinstance(node, (ast.While, ast.For)) and node.orelse:
        yield "L6: else behind a loop"
    if isinstance(node, ast.Name) and hasattr(builtins, node.id) and node.id not in OWN_NAMES:
        yield f"L8: {node.id}"
    if isinstance(node, ast.Attribute) and node.attr in PYTHONS_METHODS - METHODS - TWO_UNDERSCORES:
        yield f"L25: {node.attr}"
    if isinstance(node, ast.Assign) and any(isinstance(target, (ast.Tuple, ast.List)) for target in node.targets):
        yield "L6: an assignment that takes a tuple apart"
    if isinstance(node, ast.BinOp) and isinstance(node.op, ast.Pow) and not isinstance(node.right, ast.Constant):
        yield "L27: an exponent that is not written"
    if isinstance(node, ast.FormattedValue) and not isinstance(node.value, ast.Name):
        yield "L7: no plain name within an f-string"
    for name in names_bound(node):
        if name not in TWO_UNDERSCORES and (name.startswith("_") or hasattr(builtins, name)):
            yield f"L12, L15: {name}"


def faults_of_locals(tree):
    taken = [name.asname or name.name for node in imports_of(tree) for name in node.names]
    taken += [node.name for node in tree.body if isinstance(node, ast.ClassDef)]
    for outer in tree.body:
        if isinstance(outer, (ast.FunctionDef, ast.ClassDef)):
            for node in ast.walk(outer):
                if node is not outer and any(name in taken for name in names_bound(node)):
                    yield f"L15: a local of {outer.name} is called like an import or a class"


def imports_of(tree):
    return [node for node in ast.walk(tree) if isinstance(node, (ast.Import, ast.ImportFrom))]


def faults_of_imports(tree):
    for node in imports_of(tree):
        if node not in tree.body or not isinstance(node, ast.ImportFrom) or node.level or not node.module:
            yield f"L2, L16: line {node.lineno}"
        elif not node.module.startswith("sawsign.") or any(name.name == "*" for name in node.names):
            yield f"L2: line {node.lineno}"


def faults_of(text):
    tree = ast.parse(text)
    faults = list(faults_of_signs(text)) + list(faults_of_imports(tree)) + list(faults_of_locals(tree))
    for node in ast.walk(tree):
        faults.extend(faults_of_node(node))
    return faults


def drawn_from():
    drawn = {}
    for path in FILES:
        tree = ast.parse(path.read_text("ascii"))
        drawn["sawsign." + path.stem] = [node.module for node in imports_of(tree)]
    return drawn


class Form(unittest.TestCase):
    def test_nothing_but_plain_files_lies_in_the_package(self):
        self.assertTrue((PACKAGE / "__init__.py").is_file())
        for path in PACKAGE.iterdir():
            if path.name != "__pycache__":
                self.assertRegex(path.name, r"\A[a-z0-9_]+\.py\Z")
                self.assertTrue(path.is_file())

    def test_each_file(self):
        for path in FILES:
            with self.subTest(path=path.name):
                self.assertEqual(faults_of(path.read_text("utf-8")), [])

    def test_no_two_files_draw_from_one_another(self):
        left = drawn_from()
        while left:
            free = [name for name in left if not any(other in left for other in left[name])]
            self.assertTrue(free, f"these go round: {sorted(left)}")
            for name in free:
                left.pop(name)

    def test_faults_are_seen(self):
        bad = [
            "x = 1 / 2\n", "x = 1.5\n", "import math\n", "from .errors import NoCount\n", "x = y = 1\n",
            "def f(a):\n    return pow(a, 2, 3)\n", "# a type\n", "def _f():\n    return 1\n", "x = '\u00e4'\n",
            "def f(map):\n    return map\n", "def f(a):\n    assert a\n", "def f(a):\n    a.sort()\n",
            "x = 1\n" * 401, "def f(a):\n" + "    a = 1\n" * 40, "# " + "a" * 119 + "\n", "def f(a):\n\treturn a\n",
            "from sawsign.a import b\ndef f(b):\n    return b\n", "def f(a):\n    b, c = a\n",
            "def f(a):\n    return 2 ** a\n", "def f(a):\n    return f'{a + 1}'\n",
        ]
        for text in bad:
            with self.subTest(text=text[:40]):
                self.assertNotEqual(faults_of(text), [])


if __name__ == "__main__":
    unittest.main()
