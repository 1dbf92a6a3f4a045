"""The package keeps to the small part of Python that it is written in, rules L1 to L28.

Where the program needs no more, the look is narrower than the rule: no `try`, no `lambda`, no set, no
f-string, no keyword in a call, no annotation, no def within a def, nothing but `pass` in a class, and
plain single values at a module's top. So L4, L5, L13, L15, L18, L19, L21, L22, L24, L26 and L28 hold
by their forms not being there. A form that is needed one day is let in here, with its rule's own bounds.

This also guards, of point 1, that no clock, chance or file is used: nothing but the package's own
modules is imported, and no other name of Python's own is called.
"""

import ast
import builtins
import inspect
import keyword
import pathlib
import re
import sys
import unittest

from topslip.differing import differing
from topslip.slips import is_taken, moved_top, slip_for
from topslip.spans import is_span, span_for
from topslip.tops import rows_of, top_of

PACKAGE = pathlib.Path(__file__).resolve().parent.parent / "topslip"

# L6, L7 and, by what is not here, L13, L19, L21, L22, L24 and L27.
NODES = """
Module FunctionDef arguments arg ClassDef Return Assign AugAssign For While If Raise ImportFrom alias Expr
Pass Break Continue BoolOp And Or BinOp Add Sub Mult FloorDiv Mod Pow LShift RShift BitOr BitXor BitAnd
UnaryOp Not USub UAdd Invert IfExp Dict ListComp comprehension Compare Eq NotEq Lt LtE Gt GtE Is IsNot In
NotIn Call Constant Attribute Subscript Slice Name Load Store List Tuple
""".split()

# L8, without the sets of L24, the classes that L19 bounds, and `chr`, which L27 takes out.
OWN_CALLS = """
len range enumerate zip min max sum abs sorted reversed int str bool list tuple dict isinstance ord repr any
all divmod
""".split()
WALKED_AT_ONCE = ("zip", "enumerate", "reversed", "range")
WALKERS = ("list", "tuple", "dict", "sorted", "sum", "any", "all", "enumerate", "zip")

# L25
METHODS = """
append clear copy count endswith extend find get index insert isalnum isalpha isdigit islower isspace
isupper items join keys ljust lower lstrip partition pop remove replace reverse rfind rjust rpartition
rsplit rstrip setdefault split splitlines startswith strip update upper values zfill bit_length
""".split()
CHANGING = "append clear extend insert pop remove reverse setdefault update".split()

# L17
NOT_NAMES = """
register mro elements open input version_info with_traceback add_note attrgetter breakpoint builtins compile
copyright credits delattr dir eval exec exit gc getattr globals hasattr help id importlib license locals
methodcaller os quit setattr super type vars sys
""".split()
WORDS = """
type typing typing_extensions enum Enum IntEnum StrEnum Flag IntFlag Generic Protocol ABC ABCMeta namedtuple
NamedTuple TypedDict TYPE_CHECKING abstractmethod
""".split()
WORDS_NOWHERE = re.compile(r"\b(" + "|".join(WORDS) + r")\b|dataclass|overload|contextmanager")

# L14
NOT_FILES = ["test", "tests", "testing", "site", "conftest", "sitecustomize", "usercustomize"] + WORDS


def faults_of_text(text):
    """L10, L14, L17 and L27."""
    lines = text.split("\n")
    faults = [f"line {at} is too long" for at, line in enumerate(lines, 1) if len(line) > 120]
    if len(lines) > 401:
        faults.append("the file is too long")
    if re.search(r"[^ -~\n]", text):
        faults.append("a sign that is not from the blank to ~")
    if "\\" in text:
        faults.append("an escape, or a row that goes on in the next")
    faults.extend(f"the word {found.group()}" for found in WORDS_NOWHERE.finditer(text))
    return faults


def is_docstring(tree, node):
    return node is tree.body[0] and isinstance(node, ast.Expr) and isinstance(node.value, ast.Constant)


def faults_at_top(tree):
    """L2, L3 and L15."""
    faults = []
    met = []
    for node in tree.body:
        at = f"line {node.lineno}"
        if isinstance(node, ast.ImportFrom):
            if any(isinstance(earlier, (ast.FunctionDef, ast.ClassDef, ast.Assign)) for earlier in met):
                faults.append(f"{at}: an import that is not at the top")
        elif isinstance(node, ast.Assign):
            if not isinstance(node.value, ast.Constant):
                faults.append(f"{at}: no plain single value")
        elif not isinstance(node, (ast.FunctionDef, ast.ClassDef)) and not is_docstring(tree, node):
            faults.append(f"{at}: not for the top of a module")
        met.append(node)
    bound = bound_at_top(tree)
    faults.extend(f"{name} is bound twice" for name in bound if bound.count(name) > 1)
    return faults


def bound_at_top(tree):
    bound = []
    for node in tree.body:
        if isinstance(node, (ast.FunctionDef, ast.ClassDef)):
            bound.append(node.name)
        elif isinstance(node, ast.ImportFrom):
            bound.extend(alias.asname or alias.name for alias in node.names)
        elif isinstance(node, ast.Assign):
            bound.extend(target.id for target in node.targets if isinstance(target, ast.Name))
    return bound


def bound_within(tree):
    """The parameters and locals of all functions."""
    bound = []
    for function in ast.walk(tree):
        if isinstance(function, ast.FunctionDef):
            for node in ast.walk(function):
                if isinstance(node, ast.arg):
                    bound.append(node.arg)
                elif isinstance(node, ast.Name) and isinstance(node.ctx, ast.Store):
                    bound.append(node.id)
    return bound


def faults_of_names(tree):
    """L8, L12, L15 and L17."""
    faults = []
    at_top = bound_at_top(tree)
    within = bound_within(tree)
    # Narrower than L15, which speaks of classes and imports alone.
    faults.extend(f"{name}: a local called like a name of the file's top" for name in within if name in at_top)
    for name in at_top + within:
        if not re.fullmatch(r"[A-Za-z][A-Za-z0-9_]*", name):
            faults.append(f"{name}: no plain name")
        if name in dir(builtins) or name in NOT_NAMES or keyword.issoftkeyword(name):
            faults.append(f"{name}: a name of Python's own, or one that is not used")
    for node in ast.walk(tree):
        if isinstance(node, ast.Name) and node.id not in at_top + within:
            is_base = isinstance(node.parent, ast.ClassDef) and node.id == "ValueError"
            if not is_base and (node.id not in OWN_CALLS or not is_called(node)):
                faults.append(f"line {node.lineno}: {node.id} is not for use")
    return faults


def is_called(node):
    return isinstance(node.parent, ast.Call) and node.parent.func is node


def error_classes(tree):
    found = [node.name for node in tree.body if isinstance(node, ast.ClassDef)]
    for node in tree.body:
        if isinstance(node, ast.ImportFrom) and node.module == "topslip.errors":
            found.extend(alias.name for alias in node.names)
    return found


def faults_of_classes(tree):
    """L5, L18, L19, L26 and L28."""
    faults = []
    classes = error_classes(tree)
    for node in ast.walk(tree):
        if isinstance(node, ast.ClassDef):
            plain = len(node.bases) == 1 and isinstance(node.bases[0], ast.Name)
            plain = plain and not node.decorator_list and node.parent is tree
            if not plain or [type(part) for part in node.body] != [ast.Pass]:
                faults.append(f"line {node.lineno}: no plain error class")
        elif isinstance(node, ast.Raise):
            made = isinstance(node.exc, ast.Call) and isinstance(node.exc.func, ast.Name) and node.cause is None
            if not made or node.exc.func.id not in classes:
                faults.append(f"line {node.lineno}: an error that is not the program's own, made on the spot")
        elif isinstance(node, ast.Name) and node.id in classes:
            raised = is_called(node) and isinstance(node.parent.parent, ast.Raise)
            if not raised and not isinstance(node.parent, ast.ClassDef):
                faults.append(f"line {node.lineno}: a class that is handed on")
    return faults


def faults_of_function(tree, node):
    """L4, L10 and L21."""
    at = f"line {node.lineno}: {node.name}"
    faults = []
    parameters = node.args
    if node.parent is not tree or node.decorator_list or node.returns:
        faults.append(f"{at} is within another or has a decorator or an annotation")
    if parameters.vararg or parameters.kwarg or parameters.kwonlyargs or parameters.posonlyargs:
        faults.append(f"{at} has parameters that are not plain")
    if any(parameter.annotation for parameter in parameters.args):
        faults.append(f"{at} has an annotation")
    if not all(isinstance(default, ast.Constant) for default in parameters.defaults):
        faults.append(f"{at} has a default that is no plain value")
    if node.end_lineno - node.lineno >= 40:
        faults.append(f"{at} is too long")
    return faults


def faults_of_statement(tree, node):
    """L2, L6 and L23."""
    at = f"line {node.lineno}"
    if isinstance(node, ast.FunctionDef):
        return faults_of_function(tree, node)
    if isinstance(node, ast.ImportFrom):
        own = node.level == 0 and (node.module or "").startswith("topslip.") and node.module != "topslip.__main__"
        plain = node.parent is tree and all(alias.name != "*" for alias in node.names)
        return [] if own and plain else [f"{at}: an import from outside, or not at the top"]
    if isinstance(node, ast.Assign) and not (
        len(node.targets) == 1 and isinstance(node.targets[0], (ast.Name, ast.Subscript))
    ):
        return [f"{at}: not one plain target"]
    if isinstance(node, ast.Expr) and not isinstance(node.value, ast.Call) and not is_docstring(tree, node):
        return [f"{at}: no call by itself"]
    if isinstance(node, (ast.For, ast.While)) and node.orelse:
        return [f"{at}: an else behind a loop"]
    if isinstance(node, ast.For):
        return [f"{at}: {name} is changed while it is walked" for name in walked_by(node) if is_changed(node, name)]
    return []


def walked_by(loop):
    return [node.id for node in ast.walk(loop.iter) if isinstance(node, ast.Name)]


def is_changed(loop, name):
    for statement in loop.body:
        for node in ast.walk(statement):
            if isinstance(node, ast.Subscript) and isinstance(node.ctx, ast.Store):
                if isinstance(node.value, ast.Name) and node.value.id == name:
                    return True
            if isinstance(node, ast.Attribute) and node.attr in CHANGING:
                if isinstance(node.value, ast.Name) and node.value.id == name:
                    return True
    return False


def is_walked_at_once(node):
    around = node.parent
    if isinstance(around, (ast.For, ast.comprehension)):
        return around.iter is node
    if isinstance(around, ast.Call) and isinstance(around.func, ast.Name):
        if around.func.id in WALKERS:
            return around.args[0] is node
        return around.func.id in ("min", "max") and around.args == [node]
    return False


def faults_of_expression(node):
    """L7, L20, L22, L23, L25 and L27."""
    at = f"line {node.lineno}"
    if isinstance(node, ast.Constant):
        if isinstance(node.value, (float, complex, bytes)) or node.value is ...:
            return [f"{at}: a value of another kind"]
        if isinstance(node.value, str) and "%" in node.value:
            return [f"{at}: the sign for a hundredth within a text"]
        if isinstance(node.value, int) and node.value >= 10**900:
            return [f"{at}: a number of too many digits"]
    if isinstance(node, ast.ListComp) and (len(node.generators) > 1 or len(node.generators[0].ifs) > 1):
        return [f"{at}: more than one for or if"]
    if isinstance(node, ast.BinOp) and isinstance(node.op, ast.Pow):
        written = isinstance(node.right, ast.Constant) and node.right.value in range(65)
        return [] if written else [f"{at}: an exponent that is not written, or too great"]
    if isinstance(node, ast.Attribute) and not (node.attr in METHODS and is_called(node)):
        return [f"{at}: the method or value {node.attr}"]
    if isinstance(node, ast.Call):
        name = node.func.id if isinstance(node.func, ast.Name) else ""
        view = isinstance(node.func, ast.Attribute) and node.func.attr in ("items", "keys", "values")
        if (view or name in WALKED_AT_ONCE) and not is_walked_at_once(node):
            return [f"{at}: what is to be walked on the spot is kept"]
    if isinstance(node, ast.Compare):
        return [f"{at}: is beside another value" for operator, right in zip(node.ops, node.comparators)
                if isinstance(operator, (ast.Is, ast.IsNot)) and not is_none_or_truth(right)]
    return []


def is_none_or_truth(node):
    return isinstance(node, ast.Constant) and (node.value is None or isinstance(node.value, bool))


def faults_of(text):
    tree = ast.parse(text)
    for node in ast.walk(tree):
        for child in ast.iter_child_nodes(node):
            child.parent = node
    faults = faults_of_text(text) + faults_at_top(tree) + faults_of_names(tree) + faults_of_classes(tree)
    for node in ast.walk(tree):
        if type(node).__name__ not in NODES:
            faults.append(f"line {getattr(node, 'lineno', '?')}: {type(node).__name__}")
        elif isinstance(node, ast.stmt):
            faults.extend(faults_of_statement(tree, node))
        elif isinstance(node, ast.expr):
            faults.extend(faults_of_expression(node))
    return faults


def drawn_from(name):
    tree = ast.parse((PACKAGE / f"{name}.py").read_text(encoding="utf-8"))
    return [node.module.split(".")[1] for node in tree.body if isinstance(node, ast.ImportFrom)]


class Language(unittest.TestCase):
    def test_every_file_keeps_to_the_language(self):
        names = [path.name for path in sorted(PACKAGE.glob("*.py"))]
        for name in ("errors", "pairing", "tops", "slips", "spans", "differing"):
            self.assertIn(f"{name}.py", names)
        for name in names:
            with self.subTest(file=name):
                self.assertEqual(faults_of((PACKAGE / name).read_text(encoding="utf-8")), [])

    def test_nothing_else_lies_in_the_package(self):
        others = [path.name for path in PACKAGE.iterdir() if not re.fullmatch(r"[a-z0-9_]+\.py", path.name)]
        self.assertEqual([name for name in others if name != "__pycache__"], [])
        self.assertTrue((PACKAGE / "__init__.py").is_file())

    def test_files_bear_plain_names(self):
        for path in PACKAGE.glob("*.py"):
            name = path.stem
            self.assertNotIn(name, NOT_FILES + dir(builtins))
            self.assertFalse(name.startswith("test_"))
            self.assertTrue(name == "__init__" or not name.startswith("_"))

    def test_the_package_s_own_file_binds_nothing(self):
        self.assertEqual(bound_at_top(ast.parse((PACKAGE / "__init__.py").read_text(encoding="utf-8"))), [])

    def test_each_name_is_imported_from_the_file_that_defines_it(self):
        for path in PACKAGE.glob("*.py"):
            for node in ast.parse(path.read_text(encoding="utf-8")).body:
                if isinstance(node, ast.ImportFrom):
                    source = ast.parse((PACKAGE / f"{node.module.split('.')[1]}.py").read_text(encoding="utf-8"))
                    defined = [part.name for part in source.body if isinstance(part, (ast.FunctionDef, ast.ClassDef))]
                    defined += [part.targets[0].id for part in source.body if isinstance(part, ast.Assign)]
                    for alias in node.names:
                        self.assertIn(alias.name, defined)

    def test_no_two_files_draw_from_one_another(self):
        for path in PACKAGE.glob("*.py"):
            reached = []
            waiting = drawn_from(path.stem)
            while waiting:
                name = waiting.pop()
                if name not in reached:
                    reached.append(name)
                    waiting.extend(drawn_from(name))
            self.assertNotIn(path.stem, reached)

    def test_no_recursion_goes_deeper_than_a_hundred_calls(self):
        top = 10**100_000 - 1
        before = sys.getrecursionlimit()
        sys.setrecursionlimit(len(inspect.stack()) + 100)
        try:
            rows = rows_of(8, top)
            self.assertTrue(top_of(8, rows) == top)
            slip = slip_for(8, rows, 0)
            self.assertTrue(is_taken(8, top, 0, rows[0][1], slip) or rows[0][0] > 0)
            self.assertTrue(is_span(8, top, 0, 255, rows, span_for(8, rows, 0, 255)))
            self.assertTrue(moved_top(8, 0, 0, [0] * 8, None, 10**99) > 0)
            self.assertTrue(differing(8, top, top - 1)[1] > 0)
        finally:
            sys.setrecursionlimit(before)


class TheLookItself(unittest.TestCase):
    def test_plain_code_has_no_fault(self):
        head = '"""Words."""\n\nfrom topslip.errors import BadKey\n\nONE = 1\n\n\n'
        inside = [
            "return [ONE + part for part in range(n)]", "a = [1, 2]\n    a.append(n)\n    return a[-1]",
            "if n is None:\n        raise BadKey('one')", "for k in list(range(n)):\n        a = k",
            "a = dict(zip([n], [n]))\n    for k in a.items():\n        n = k", "return max(range(n))",
            "a = {}\n    for k in n:\n        a[k] = True", "return n ** 2", "return (1, 2) if n else None",
        ]
        for statement in inside:
            with self.subTest(statement=statement):
                self.assertEqual(faults_of(f"{head}def more(n):\n    {statement}\n"), [])

    def test_plain_error_classes_have_no_fault(self):
        text = "class One(ValueError):\n    pass\n\n\nclass Two(One):\n    pass\n"
        self.assertEqual(faults_of(text), [])

    def test_faults_are_seen(self):
        inside = [
            "a = b = 1", "a, b = (1, 2)", "a = 1 / 2", "a = 1.5", "a = 2 ** n", "a = 2 ** 65", "a = open(n)",
            "a = n is n", "a = n is 1", "n", "'words'", "a = ...", "a = b'1'",
            "a = {k: 1 for k in n}", "a = [k for k in n if k if 1]", "assert n", "del n", "a = n.sort()",
            "_a = 1", "len = 1", "one = 1", "yield n", "with n:\n        pass", "import time", "a = (k for k in n)",
            "a = 1  # the type", "a = '\u00e9'", "\ta = 1", "a = 1" + " " * 120, "a = lambda *n: n", "a = lambda: n",
            "for k in n:\n        pass\n    else:\n        pass", "a = print(n)", "a = chr(n)",
            "try:\n        pass\n    except KeyError:\n        pass", "raise ValueError('a')", "raise n", "raise",
            "a = {1, 2}", "a = set(n)", "a = frozenset(n)", "a = f'{n}'", "a = '%'", "a = '\\n'",
            "a = sorted(n, reverse=True)", "a = len", "a = n.append", "n.a = 1", "a = n.a", "a: int = 1",
            "def two():\n        pass", "class Two(ValueError):\n        pass", "a = range(n)", "a = zip(n, n)",
            "a = n.items()", "a = sum([1], range(n))", "a = max(1, range(n))", "a = enumerate(range(n))",
            "for k in n:\n        n.append(k)", "for k in n:\n        n[k] = 1",
            "for k in enumerate(n):\n        n.pop()", "for k in n.items():\n        n.clear()",
            "a = ValueError", "from topslip.tops import top_of", "type = 1", "match = 1", "global n", "a = *n,",
            "a = (b := n)", "a = 1" + "0" * 900, "id = 1", "a = getattr(n, 'a')", "a = __name__", "print(n)",
        ]
        for statement in inside:
            with self.subTest(statement=statement[:60]):
                row = "def one(n):\n" + ("    " if statement[0] != "\t" else "") + statement + "\n"
                self.assertNotEqual(faults_of(row), [])

    def test_faults_at_the_top_are_seen(self):
        for text in (
            "import time\n", "from random import choice\n", "from . import tops\n", "if 1:\n    pass\n",
            "from topslip import tops\n", "from topslip.tops import *\n", "ONE = []\n", "ONE = {}\n", "ONE = len\n",
            "ONE = 1\nONE = 2\n", "ONE = 1\n\n\ndef ONE():\n    pass\n", "ONE = 1\nfrom topslip.tops import top_of\n",
            "@one\ndef two():\n    pass\n", "def one():\n" + "    pass\n" * 40, "\n" * 401,
            "def one(two=[]):\n    pass\n", "def one(two: int):\n    pass\n", "def one() -> int:\n    pass\n",
            "def one(*, two):\n    pass\n", "def one(two, /):\n    pass\n", "def one(**two):\n    pass\n",
            "def one():\n    'words'\n",
        ):
            with self.subTest(text=text[:30]):
                self.assertNotEqual(faults_of(text), [])

    def test_faults_of_classes_are_seen(self):
        for text in (
            "class One:\n    pass\n", "class One(ValueError, KeyError):\n    pass\n",
            "class One(StopIteration):\n    pass\n",
            "class One(ValueError):\n    two = 1\n", "class One(ValueError):\n    def two(self):\n        pass\n",
            "from topslip.errors import BadKey\n\n\ndef one():\n    return BadKey\n",
            "from topslip.errors import BadKey\n\n\ndef one():\n    return BadKey('two')\n",
            "from topslip.errors import BadKey\n\n\ndef one():\n    raise BadKey\n",
            "from topslip.errors import BadKey\n\n\ndef one(two):\n    raise BadKey('two') from two\n",
            "from topslip.errors import BadKey\n\n\ndef one(BadKey):\n    return 1\n",
            "from topslip.tops import top_of\n\n\ndef one(top_of):\n    return 1\n",
        ):
            with self.subTest(text=text[:60]):
                self.assertNotEqual(faults_of(text), [])


if __name__ == "__main__":
    unittest.main()
