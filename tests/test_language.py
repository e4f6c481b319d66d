"""Holds the package's files to those rules of ../shared/LANGUAGE.md that a walk through their syntax can see."""

import ast
import builtins
import pathlib
import re
import unittest

PACKAGE = pathlib.Path(__file__).resolve().parent.parent / "oneorder"

ERRORS = """Exception ValueError TypeError KeyError IndexError LookupError ZeroDivisionError ArithmeticError
OverflowError RuntimeError NotImplementedError AttributeError StopIteration""".split()
OWN_NAMES = """len range enumerate zip min max sum abs sorted reversed int str bool list tuple dict set frozenset
isinstance ord repr any all divmod""".split() + ERRORS
METHODS = """append clear copy count endswith extend find get index insert isalnum isalpha isdigit islower isspace
isupper items join keys ljust lower lstrip partition pop remove replace reverse rfind rjust rpartition rsplit rstrip
setdefault split splitlines startswith strip update upper values zfill bit_length""".split()
DOUBLE = ("__init__", "__eq__", "__repr__", "__str__", "__len__")
WORDS = re.compile(r"\b(type|typing|typing_extensions|enum|Enum|IntEnum|StrEnum|Flag|IntFlag|Generic|Protocol|ABC"
                   r"|ABCMeta|namedtuple|NamedTuple|TypedDict|TYPE_CHECKING|abstractmethod)\b"
                   r"|dataclass|overload|contextmanager")
NODES = """Module Expr Assign AugAssign If While For Return Break Continue Pass Raise Try ExceptHandler FunctionDef
ClassDef ImportFrom alias arguments arg Call keyword Attribute Subscript Slice Name Load Store Constant List Tuple
Dict BinOp UnaryOp BoolOp Compare IfExp ListComp comprehension JoinedStr FormattedValue Lambda Add Sub Mult FloorDiv
Mod Pow BitAnd BitOr BitXor LShift RShift Invert USub UAdd Not And Or Eq NotEq Lt LtE Gt GtE In NotIn Is
IsNot""".split()


def files():
    return sorted(path for path in PACKAGE.rglob("*") if "__pycache__" not in path.parts)


def own_methods(trees):
    return {node.name for tree in trees for top in tree.body if isinstance(top, ast.ClassDef)
            for node in top.body if isinstance(node, ast.FunctionDef)}


def bound_names(tree):
    for node in ast.walk(tree):
        if isinstance(node, ast.Name) and isinstance(node.ctx, ast.Store):
            yield node, node.id
        elif isinstance(node, ast.arg):
            yield node, node.arg
        elif isinstance(node, (ast.FunctionDef, ast.ClassDef)):
            yield node, node.name
        elif isinstance(node, ast.Attribute) and isinstance(node.ctx, ast.Store):
            yield node, node.attr


def faults_of_text(text):
    for line, row in enumerate(text.split("\n"), 1):
        if len(row) > 120:
            yield line, "L10"
        if any(not " " <= sign <= "~" for sign in row):
            yield line, "L14"
        if WORDS.search(row):
            yield line, "L17"
    if text.count("\n") > 400:
        yield 401, "L10"


def faults_of_top(tree):
    defined = set()
    for node in tree.body:
        if isinstance(node, ast.FunctionDef):
            defined.add(node.name)
        if isinstance(node, ast.ImportFrom):
            if node.level or not (node.module or "").startswith("oneorder."):
                yield node.lineno, "L2"
        elif isinstance(node, ast.Assign):
            for inner in ast.walk(node.value):
                if isinstance(inner, (ast.Call, ast.Attribute, ast.Subscript, ast.ListComp, ast.Set)):
                    yield node.lineno, "L3"
                if isinstance(inner, ast.Name) and inner.id not in defined:
                    yield node.lineno, "L3"
        elif not isinstance(node, (ast.FunctionDef, ast.ClassDef)):
            if not (isinstance(node, ast.Expr) and isinstance(node.value, ast.Constant)):
                yield node.lineno, "L3"


def fault_of_node(node):
    if type(node).__name__ not in NODES:
        return "L6 or L7"
    if isinstance(node, ast.Assign) and (len(node.targets) > 1 or isinstance(node.targets[0], ast.Tuple)):
        return "L6"
    if isinstance(node, (ast.For, ast.While)) and node.orelse:
        return "L6"
    if isinstance(node, ast.Try) and node.finalbody:
        return "L6"
    if isinstance(node, ast.Constant) and isinstance(node.value, (float, complex, bytes)):
        return "L7"
    if isinstance(node, ast.ListComp) and (len(node.generators) > 1 or len(node.generators[0].ifs) > 1):
        return "L7"
    if isinstance(node, (ast.FunctionDef, ast.ClassDef)) and node.decorator_list:
        return "L4 or L5"
    if isinstance(node, ast.FunctionDef) and node.end_lineno - node.lineno >= 40:
        return "L10"
    if isinstance(node, ast.arguments) and (node.vararg or node.kwarg or node.kwonlyargs or node.posonlyargs):
        return "L4"
    if isinstance(node, ast.Name) and hasattr(builtins, node.id) and node.id not in OWN_NAMES:
        return "L8"
    if isinstance(node, ast.Compare) and isinstance(node.ops[0], (ast.Is, ast.IsNot)):
        if not isinstance(node.comparators[0], ast.Constant):
            return "L20"
    return None


def faults_of_names(tree, methods):
    imported = {alias.name for node in tree.body if isinstance(node, ast.ImportFrom) for alias in node.names}
    for node, name in bound_names(tree):
        if name in DOUBLE:
            continue
        if not re.fullmatch(r"[A-Za-z][A-Za-z0-9_]*", name):
            yield node.lineno, "L12"
        if hasattr(builtins, name) and not isinstance(node, ast.Attribute):
            yield node.lineno, "L15"
        if name in imported and isinstance(node, (ast.Name, ast.arg)):
            yield node.lineno, "L15"
    for node in ast.walk(tree):
        if isinstance(node, ast.Call) and isinstance(node.func, ast.Attribute):
            if node.func.attr not in METHODS and node.func.attr not in methods:
                yield node.lineno, "L25"


class Language(unittest.TestCase):
    def test_files(self):
        for path in files():
            self.assertRegex(path.name, r"^[a-z_][a-z0-9_]*\.py$", "L1")
        self.assertIn(PACKAGE / "__init__.py", files())

    def test_rules(self):
        texts = {path.name: path.read_text("utf-8") for path in files()}
        trees = {name: ast.parse(text) for name, text in texts.items()}
        methods = own_methods(trees.values())
        for name, tree in trees.items():
            faults = list(faults_of_text(texts[name])) + list(faults_of_top(tree))
            faults += faults_of_names(tree, methods)
            for node in ast.walk(tree):
                if fault_of_node(node):
                    faults.append((getattr(node, "lineno", 0), fault_of_node(node)))
            self.assertEqual(faults, [], name)

    def test_no_name_is_a_method_here_and_a_value_there(self):
        trees = [ast.parse(path.read_text("utf-8")) for path in files()]
        stored = {name for tree in trees for node, name in bound_names(tree) if isinstance(node, ast.Attribute)}
        self.assertEqual(stored & own_methods(trees), set(), "L18")

    def test_values_of_objects_have_free_names(self):
        taken = {name for kind in (str, int, list, dict, set, bytes) for name in vars(kind)}
        allowed = {"count", "index", "title", "find", "get", "join", "lower", "upper", "split", "strip", "copy", "add"}
        trees = [ast.parse(path.read_text("utf-8")) for path in files()]
        stored = {name for tree in trees for node, name in bound_names(tree) if isinstance(node, ast.Attribute)}
        self.assertEqual((stored & taken) - allowed, set(), "L26")


if __name__ == "__main__":
    unittest.main()
