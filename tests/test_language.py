"""The package keeps to the small part of Python that it is written in.

What is looked at here: L1, L2, L3, L6, L7, L8, L10, L12, L14, L16, L17, L20 and L25, as far as the
form of the code tells them. So this also guards, of point 1, that no clock, chance or file is used:
nothing but the package's own modules is imported, and no other name of Python's own is called.
The other rules are for the reader.
"""

import ast
import builtins
import pathlib
import re
import unittest

PACKAGE = pathlib.Path(__file__).resolve().parent.parent / "topslip"

NODES = """
Module FunctionDef arguments arg ClassDef Return Assign AugAssign For While If Raise Try ExceptHandler
ImportFrom alias Expr Pass Break Continue BoolOp And Or BinOp Add Sub Mult FloorDiv Mod Pow LShift RShift
BitOr BitXor BitAnd UnaryOp Not USub UAdd Invert Lambda IfExp Dict Set ListComp comprehension Compare
Eq NotEq Lt LtE Gt GtE Is IsNot In NotIn Call keyword JoinedStr FormattedValue Constant Attribute
Subscript Slice Name Load Store List Tuple
""".split()

OWN_NAMES = """
len range enumerate zip min max sum abs sorted reversed int str bool list tuple dict set frozenset
isinstance ord repr any all divmod Exception ValueError TypeError KeyError IndexError LookupError
ZeroDivisionError ArithmeticError OverflowError RuntimeError NotImplementedError AttributeError
StopIteration
""".split()

METHODS = """
append clear copy count endswith extend find get index insert isalnum isalpha isdigit islower isspace
isupper items join keys ljust lower lstrip partition pop remove replace reverse rfind rjust rpartition
rsplit rstrip setdefault split splitlines startswith strip update upper values zfill bit_length
""".split()

WORDS_NOWHERE = re.compile(
    r"\b(type|typing|typing_extensions|enum|Enum|IntEnum|StrEnum|Flag|IntFlag|Generic|Protocol|ABC|ABCMeta"
    r"|namedtuple|NamedTuple|TypedDict|TYPE_CHECKING|abstractmethod)\b|dataclass|overload|contextmanager"
)

DOUBLE_UNDERSCORES = ("__init__", "__eq__", "__repr__", "__str__", "__len__")


def faults_of_text(text):
    lines = text.split("\n")
    faults = [f"line {at} is too long" for at, line in enumerate(lines, 1) if len(line) > 120]
    if len(lines) > 401:
        faults.append("the file is too long")
    if re.search(r"[^ -~\n]", text):
        faults.append("a sign that is not from the blank to ~")
    faults.extend(f"the word {found.group()}" for found in WORDS_NOWHERE.finditer(text))
    return faults


def faults_at_top(tree):
    faults = []
    for at, node in enumerate(tree.body):
        is_docstring = at == 0 and isinstance(node, ast.Expr) and isinstance(node.value, ast.Constant)
        if not is_docstring and not isinstance(node, (ast.ImportFrom, ast.FunctionDef, ast.ClassDef, ast.Assign)):
            faults.append(f"line {node.lineno}: not for the top of a module")
    return faults


def names_bound_in(tree):
    bound = []
    for node in ast.walk(tree):
        if isinstance(node, (ast.FunctionDef, ast.ClassDef)):
            bound.append(node.name)
        elif isinstance(node, ast.arg):
            bound.append(node.arg)
        elif isinstance(node, ast.Name) and isinstance(node.ctx, ast.Store):
            bound.append(node.id)
        elif isinstance(node, ast.alias):
            bound.append(node.asname or node.name)
    return bound


def faults_of_names(tree):
    faults = []
    bound = names_bound_in(tree)
    for name in bound:
        if name not in DOUBLE_UNDERSCORES and not re.fullmatch(r"[A-Za-z][A-Za-z0-9_]*", name):
            faults.append(f"{name}: no plain name")
        if name in dir(builtins):
            faults.append(f"{name}: a name of Python's own")
    for node in ast.walk(tree):
        if isinstance(node, ast.Name) and node.id not in bound and node.id not in OWN_NAMES:
            faults.append(f"line {node.lineno}: {node.id} is not for use")
    return faults


def faults_of_node(node):
    at = f"line {getattr(node, 'lineno', '?')}"
    if type(node).__name__ not in NODES:
        return [f"{at}: {type(node).__name__}"]
    if isinstance(node, ast.arguments) and (node.vararg or node.kwarg or node.kwonlyargs or node.posonlyargs):
        return ["parameters that are not plain"]
    if isinstance(node, ast.FunctionDef) and (node.decorator_list or node.end_lineno - node.lineno >= 40):
        return [f"{at}: {node.name} is too long or has a decorator"]
    if isinstance(node, ast.ImportFrom):
        own = node.level == 0 and (node.module or "").startswith("topslip.")
        return [] if own or node.module == "__future__" else [f"{at}: an import from outside"]
    if isinstance(node, ast.Assign) and (len(node.targets) > 1 or isinstance(node.targets[0], (ast.Tuple, ast.List))):
        return [f"{at}: more than one target"]
    if isinstance(node, ast.Constant) and isinstance(node.value, (float, complex, bytes)):
        return [f"{at}: a value of another kind"]
    if isinstance(node, ast.Try) and node.finalbody or isinstance(node, (ast.For, ast.While)) and node.orelse:
        return [f"{at}: a finally, or an else behind a loop"]
    if isinstance(node, ast.ListComp) and (len(node.generators) > 1 or len(node.generators[0].ifs) > 1):
        return [f"{at}: more than one for or if"]
    if isinstance(node, ast.BinOp) and isinstance(node.op, ast.Pow) and not isinstance(node.right, ast.Constant):
        return [f"{at}: an exponent that is not written"]
    if isinstance(node, ast.Call) and isinstance(node.func, ast.Attribute) and node.func.attr not in METHODS:
        return [f"{at}: the method {node.func.attr}"]
    return []


def faults_of_expressions(tree):
    faults = []
    for node in ast.walk(tree):
        faults.extend(faults_of_node(node))
        if isinstance(node, ast.Compare):
            for operator, right in zip(node.ops, node.comparators):
                plain = isinstance(right, ast.Constant) and (right.value is None or isinstance(right.value, bool))
                if isinstance(operator, (ast.Is, ast.IsNot)) and not plain:
                    faults.append(f"line {node.lineno}: is beside another value")
    return faults


def faults_of(text):
    tree = ast.parse(text)
    return faults_of_text(text) + faults_at_top(tree) + faults_of_names(tree) + faults_of_expressions(tree)


def drawn_from(name):
    tree = ast.parse((PACKAGE / f"{name}.py").read_text(encoding="utf-8"))
    return [node.module.split(".")[1] for node in tree.body if isinstance(node, ast.ImportFrom)]


class Language(unittest.TestCase):
    def test_every_file_keeps_to_the_language(self):
        files = sorted(PACKAGE.glob("*.py"))
        self.assertIn("tops.py", [path.name for path in files])
        for path in files:
            with self.subTest(file=path.name):
                self.assertEqual(faults_of(path.read_text(encoding="utf-8")), [])

    def test_nothing_else_lies_in_the_package(self):
        others = [path.name for path in PACKAGE.iterdir() if not re.fullmatch(r"[a-z0-9_]+\.py", path.name)]
        self.assertEqual([name for name in others if name != "__pycache__"], [])
        self.assertTrue((PACKAGE / "__init__.py").is_file())

    def test_each_name_is_imported_from_the_file_that_defines_it(self):
        for path in PACKAGE.glob("*.py"):
            for node in ast.parse(path.read_text(encoding="utf-8")).body:
                if isinstance(node, ast.ImportFrom):
                    source = ast.parse((PACKAGE / f"{node.module.split('.')[1]}.py").read_text(encoding="utf-8"))
                    defined = [part.name for part in source.body if isinstance(part, (ast.FunctionDef, ast.ClassDef))]
                    defined += [part.targets[0].id for part in source.body if isinstance(part, ast.Assign)]
                    for alias in node.names:
                        self.assertIn(alias.name, defined)

    def test_no_two_files_draw_from_one_another(self):
        for path in PACKAGE.glob("*.py"):
            reached = []
            waiting = drawn_from(path.stem)
            while waiting:
                name = waiting.pop()
                if name not in reached:
                    reached.append(name)
                    waiting.extend(drawn_from(name))
            self.assertNotIn(path.stem, reached)


class TheLookItself(unittest.TestCase):
    def test_plain_code_has_no_fault(self):
        text = '"""Words."""\n\nONE = 1\n\n\ndef more(number):\n    return [ONE + part for part in range(number)]\n'
        self.assertEqual(faults_of(text), [])

    def test_faults_are_seen(self):
        inside = [
            "a = b = 1", "a, b = (1, 2)", "a = 1 / 2", "a = 1.5", "a = 2 ** n", "a = open(n)",
            "a = n is n", "a = n is 1",
            "a = {k: 1 for k in n}", "a = [k for k in n if k if 1]", "assert n", "del n", "a = n.sort()",
            "_a = 1", "len = 1", "yield n", "with n:\n        pass", "import time", "a = (k for k in n)",
            "a = 1  # the type", "a = '\u00e9'", "\ta = 1", "a = 1" + " " * 120, "a = lambda *n: n",
            "for k in n:\n        pass\n    else:\n        pass", "a = print(n)", "a = chr(n)",
        ]
        for statement in inside:
            with self.subTest(statement=statement):
                row = "def one(n):\n" + ("    " if statement[0] != "\t" else "") + statement + "\n"
                self.assertNotEqual(faults_of(row), [])

    def test_faults_at_the_top_are_seen(self):
        for text in ("import time\n", "from random import choice\n", "from . import tops\n", "if 1:\n    pass\n",
                     "@one\ndef two():\n    pass\n", "def one():\n" + "    pass\n" * 40, "\n" * 401):
            with self.subTest(text=text[:30]):
                self.assertNotEqual(faults_of(text), [])


if __name__ == "__main__":
    unittest.main()
