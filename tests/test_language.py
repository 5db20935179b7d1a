"""Holds the package to those rules of the language document that can be read off the text of a file."""

import ast
import builtins
import pathlib
import re
import unittest

PACKAGE = pathlib.Path(__file__).resolve().parent.parent / "signedpowers"

ALLOWED_NODES = (
    ast.Module, ast.ImportFrom, ast.alias, ast.FunctionDef, ast.ClassDef, ast.arguments, ast.arg, ast.Lambda,
    ast.Assign, ast.AugAssign, ast.If, ast.While, ast.For, ast.Return, ast.Break, ast.Continue, ast.Pass, ast.Raise,
    ast.Try, ast.ExceptHandler, ast.Expr, ast.Constant, ast.List, ast.Tuple, ast.Dict, ast.BinOp, ast.UnaryOp,
    ast.BoolOp, ast.Compare, ast.IfExp, ast.Call, ast.keyword, ast.Attribute, ast.Subscript, ast.Slice, ast.ListComp,
    ast.comprehension, ast.JoinedStr, ast.FormattedValue, ast.Name, ast.expr_context, ast.operator, ast.unaryop,
    ast.boolop, ast.cmpop,
)
ALLOWED_BUILTINS = set(
    "len range enumerate zip min max sum abs sorted reversed int str bool list tuple dict set frozenset isinstance ord "
    "repr any all divmod Exception ValueError TypeError KeyError IndexError LookupError ZeroDivisionError "
    "ArithmeticError OverflowError RuntimeError NotImplementedError AttributeError StopIteration".split()
)
ALLOWED_METHODS = set(
    "append clear copy count endswith extend find get index insert isalnum isalpha isdigit islower isspace isupper "
    "items join keys ljust lower lstrip partition pop remove replace reverse rfind rjust rpartition rsplit rstrip "
    "setdefault split splitlines startswith strip update upper values zfill bit_length".split()
)
DUNDER_METHODS = {"__init__", "__eq__", "__repr__", "__str__", "__len__"}
FORBIDDEN_WORDS = re.compile(
    r"\b(type|typing|typing_extensions|enum|Enum|IntEnum|StrEnum|Flag|IntFlag|Generic|Protocol|ABC|ABCMeta|namedtuple|"
    r"NamedTuple|TypedDict|TYPE_CHECKING|abstractmethod|register|mro|elements|open|input|version_info)\b"
    r"|dataclass|overload|contextmanager"
)


def text_faults(text):
    rows = text.split("\n")
    faults = [f"{at}: longer than 120 signs" for at, row in enumerate(rows, 1) if len(row) > 120]
    faults += [f"{at}: a sign outside ASCII" for at, row in enumerate(rows, 1) if re.search("[^ -~]", row)]
    faults += [f"{at}: a forbidden word" for at, row in enumerate(rows, 1) if FORBIDDEN_WORDS.search(row)]
    if len(rows) > 401:
        faults.append("more than 400 lines")
    return faults


def plain_value(node):
    if isinstance(node, ast.UnaryOp):
        return isinstance(node.op, ast.USub) and isinstance(node.operand, ast.Constant)
    if isinstance(node, (ast.List, ast.Tuple)):
        return all(plain_value(part) for part in node.elts)
    if isinstance(node, ast.Dict):
        return all(plain_value(part) for part in node.keys + node.values)
    return isinstance(node, ast.Constant)


def top_faults(tree):
    bound = []
    faults = []
    for at, node in enumerate(tree.body):
        if isinstance(node, ast.ImportFrom):
            bound += [one.name for one in node.names]
            faults += import_faults(node)
        elif isinstance(node, (ast.FunctionDef, ast.ClassDef)):
            bound.append(node.name)
        elif isinstance(node, ast.Assign) and isinstance(node.targets[0], ast.Name) and plain_value(node.value):
            bound.append(node.targets[0].id)
        elif at > 0 or not isinstance(node, ast.Expr) or not isinstance(node.value, ast.Constant):
            faults.append(f"{node.lineno}: not for the top of a file")
    if len(bound) > len(set(bound)):
        faults.append("a name is bound twice at the top")
    return faults


def import_faults(node):
    faults = []
    if node.level != 0 or not node.module.startswith("signedpowers."):
        faults.append(f"{node.lineno}: an import from outside the package")
    if any(one.name == "*" for one in node.names):
        faults.append(f"{node.lineno}: import *")
    return faults


def def_faults(node):
    faults = []
    if node.end_lineno - node.lineno + 1 > 40:
        faults.append("more than 40 lines in a function")
    given = node.args
    if node.decorator_list or given.vararg or given.kwarg or given.kwonlyargs or given.posonlyargs:
        faults.append("a decorator or parameters that are not plain")
    if node.name.startswith("_") and node.name not in DUNDER_METHODS:
        faults.append("a name with an underscore ahead")
    return faults


def node_faults(node, own_methods):
    if not isinstance(node, ALLOWED_NODES):
        return ["a form outside the language"]
    if isinstance(node, ast.FunctionDef):
        return def_faults(node)
    if isinstance(node, ast.Constant) and isinstance(node.value, (float, complex, bytes)):
        return ["a value outside the language"]
    if isinstance(node, (ast.Div, ast.MatMult)):
        return ["an operator outside the language"]
    if isinstance(node, ast.Assign) and (len(node.targets) > 1 or isinstance(node.targets[0], (ast.Tuple, ast.List))):
        return ["several targets"]
    if isinstance(node, (ast.For, ast.While)) and node.orelse:
        return ["else behind a loop"]
    if isinstance(node, ast.Try) and node.finalbody:
        return ["finally"]
    if isinstance(node, ast.ListComp) and (len(node.generators) > 1 or len(node.generators[0].ifs) > 1):
        return ["a comprehension with several for or if"]
    if isinstance(node, ast.Name):
        return name_faults(node)
    if isinstance(node, ast.Call) and isinstance(node.func, ast.Attribute):
        if node.func.attr not in ALLOWED_METHODS | own_methods:
            return ["a method outside the language"]
    return []


def name_faults(node):
    if node.id.startswith("_"):
        return ["a name with an underscore ahead"]
    if hasattr(builtins, node.id) and (node.id not in ALLOWED_BUILTINS or isinstance(node.ctx, ast.Store)):
        return ["a name of Python's own"]
    return []


def methods_of(text):
    classes = [node for node in ast.parse(text).body if isinstance(node, ast.ClassDef)]
    return {part.name for node in classes for part in node.body if isinstance(part, ast.FunctionDef)}


def file_faults(text, own_methods=frozenset()):
    tree = ast.parse(text)
    faults = text_faults(text) + top_faults(tree)
    for node in ast.walk(tree):
        faults += [f"{getattr(node, 'lineno', 0)}: {fault}" for fault in node_faults(node, own_methods)]
    return faults


def package_files():
    return sorted(path for path in PACKAGE.rglob("*") if "__pycache__" not in path.parts)


def drawn_from(path):
    return {
        node.module.split(".")[1] for node in ast.parse(path.read_text()).body if isinstance(node, ast.ImportFrom)
    }


class LanguageTest(unittest.TestCase):
    def test_each_file_keeps_to_the_language(self):
        texts = {path.name: path.read_text(encoding="ascii") for path in package_files()}
        own_methods = set().union(*[methods_of(text) for text in texts.values()])
        for name, text in texts.items():
            with self.subTest(name):
                self.assertEqual(file_faults(text, own_methods), [])

    def test_only_plainly_called_python_files_lie_in_the_package(self):
        names = [path.relative_to(PACKAGE).as_posix() for path in package_files()]
        self.assertIn("__init__.py", names)
        self.assertEqual([name for name in names if not re.fullmatch(r"[a-z][a-z0-9_]*\.py|__init__\.py", name)], [])
        stems = [path.stem for path in package_files() if path.stem != "__init__"]
        self.assertEqual([stem for stem in stems if hasattr(builtins, stem) or stem.startswith("test")], [])

    def test_no_two_files_draw_from_one_another(self):
        left = {path.stem: drawn_from(path) for path in package_files()}
        self.assertEqual(left["__init__"], set())
        while left:
            free = [name for name in left if not left[name] & set(left)]
            self.assertTrue(free, f"files draw from one another: {sorted(left)}")
            for name in free:
                del left[name]

    def test_faults_are_found(self):
        for text in (
            "import sys\n", "from os import path\n", "from signedpowers.house import *\n", "a = 1\na = 2\n", "a = [b]\n",
            "a = 1.5\n", "print(1)\n", "def f(*a):\n    return a\n", "def f(x):\n    return x / 2\n",
            "def f(x):\n    return open(x)\n", "def f(x):\n    x.sort()\n", "def f(x):\n    del x[0]\n",
            "def f(x):\n    a = b = x\n", "def f(x):\n    a, b = x\n", "def f(x):\n    return {a for a in x}\n",
            "def f(x):\n    assert x\n", "# type\n", "# " + "x" * 120 + "\n", "def f():\n" + "    pass\n" * 40,
            "def f(x):\n    with x:\n        pass\n", "def f(x):\n    for a in x:\n        pass\n    else:\n        pass\n",
        ):
            self.assertNotEqual(file_faults(text), [], text)
        self.assertEqual(file_faults('"""A file."""\n\nA = -1\n\n\ndef f(x):\n    return [a + A for a in x if a]\n'), [])
