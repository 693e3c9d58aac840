"""Looks at source for what LANGUAGE.md rules out, as far as single rows of it can be seen in the syntax."""

import ast
import builtins
import re

NODES = (
    ast.Module, ast.ImportFrom, ast.alias, ast.FunctionDef, ast.Lambda, ast.arguments, ast.arg, ast.ClassDef,
    ast.Assign, ast.AugAssign, ast.If, ast.While, ast.For, ast.Return, ast.Break, ast.Continue, ast.Pass, ast.Raise,
    ast.Try, ast.ExceptHandler, ast.Expr, ast.Constant, ast.List, ast.Tuple, ast.Dict, ast.Set, ast.BinOp,
    ast.UnaryOp, ast.Compare, ast.BoolOp, ast.IfExp, ast.Call, ast.keyword, ast.Attribute, ast.Subscript, ast.Slice,
    ast.ListComp, ast.comprehension, ast.JoinedStr, ast.FormattedValue, ast.Name, ast.expr_context, ast.boolop,
    ast.operator, ast.unaryop, ast.cmpop,
)
TOP = (ast.ImportFrom, ast.FunctionDef, ast.ClassDef, ast.Assign)
OWN_NAMES = """len range enumerate zip min max sum abs sorted reversed int str bool list tuple dict set frozenset
    isinstance ord repr any all divmod Exception ValueError TypeError KeyError IndexError LookupError
    ZeroDivisionError ArithmeticError OverflowError RuntimeError NotImplementedError AttributeError
    StopIteration""".split()
METHODS = """append clear copy count endswith extend find get index insert isalnum isalpha isdigit islower isspace
    isupper items join keys ljust lower lstrip partition pop remove replace reverse rfind rjust rpartition rsplit
    rstrip setdefault split splitlines startswith strip update upper values zfill bit_length""".split()
UNDERSCORED = ("__init__", "__eq__", "__repr__", "__str__", "__len__", "__all__", "__version__")
WORDS = re.compile(
    r"\b(type|typing|typing_extensions|enum|Enum|IntEnum|StrEnum|Flag|IntFlag|Generic|Protocol|ABC|ABCMeta"
    r"|namedtuple|NamedTuple|TypedDict|TYPE_CHECKING|abstractmethod)\b|dataclass|overload|contextmanager")


def faults_of_rows(text):
    rows = text.splitlines()
    faults = ["L10 file"] if len(rows) > 400 else []
    faults += ["L10 line" for row in rows if len(row) > 120]
    faults += ["L14 sign"] if re.search(r"[^ -~\n]", text) else []
    faults += ["L17 word"] if WORDS.search(text) else []
    return faults


def faults_of_node(node):
    faults = [] if isinstance(node, NODES) else ["L6 L7 form"]
    if isinstance(node, ast.Constant) and isinstance(node.value, (float, complex, bytes)):
        faults.append("L7 value")
    if isinstance(node, ast.Constant) and isinstance(node.value, str) and "%" in node.value:
        faults.append("L27 text")
    if isinstance(node, (ast.BinOp, ast.AugAssign)) and isinstance(node.op, (ast.Div, ast.MatMult)):
        faults.append("L7 operator")
    if isinstance(node, ast.BinOp) and isinstance(node.op, ast.Pow) and not isinstance(node.right, ast.Constant):
        faults.append("L27 power")
    if isinstance(node, (ast.For, ast.While)) and node.orelse:
        faults.append("L6 else")
    if isinstance(node, ast.Try) and node.finalbody:
        faults.append("L6 finally")
    if isinstance(node, ast.Assign) and len(node.targets) != 1:
        faults.append("L6 targets")
    if isinstance(node, ast.ListComp) and (len(node.generators) > 1 or len(node.generators[0].ifs) > 1):
        faults.append("L7 comprehension")
    if isinstance(node, ast.Compare) and any(isinstance(op, (ast.Is, ast.IsNot)) for op in node.ops):
        if not all(isinstance(side, ast.Constant) for side in node.comparators):
            faults.append("L20 is")
    if isinstance(node, ast.ImportFrom) and not (node.module or "").startswith(("reservedtreaty.", "__future__")):
        faults.append("L2 import")
    if isinstance(node, (ast.FunctionDef, ast.ClassDef)) and node.decorator_list:
        faults.append("L4 L5 decorator")
    if isinstance(node, ast.FunctionDef) and node.end_lineno - node.lineno >= 40:
        faults.append("L10 function")
    if isinstance(node, ast.arguments) and (node.vararg or node.kwarg or node.kwonlyargs):
        faults.append("L4 star")
    return faults


def bound_names(tree):
    names = [node.id for node in ast.walk(tree) if isinstance(node, ast.Name) and isinstance(node.ctx, ast.Store)]
    names += [node.arg for node in ast.walk(tree) if isinstance(node, ast.arg)]
    names += [node.name for node in ast.walk(tree) if isinstance(node, ast.alias)]
    names += [node.name for node in tree.body if isinstance(node, (ast.FunctionDef, ast.ClassDef))]
    return names


def methods_of(trees):
    return [node.name for tree in trees for each in ast.walk(tree) if isinstance(each, ast.ClassDef)
            for node in each.body if isinstance(node, ast.FunctionDef)]


def faults_of_names(tree, methods):
    bound = bound_names(tree)
    faults = ["L15 name " + name for name in bound if name in dir(builtins)]
    faults += ["L12 name " + name for name in bound if name.startswith("_") and name not in UNDERSCORED]
    for node in ast.walk(tree):
        if isinstance(node, ast.Name) and node.id not in bound and node.id not in OWN_NAMES:
            faults.append("L8 name " + node.id)
        if isinstance(node, ast.Call) and isinstance(node.func, ast.Attribute):
            if node.func.attr not in METHODS and node.func.attr not in methods:
                faults.append("L25 method " + node.func.attr)
    return faults


def faults_of_top(tree):
    faults = []
    for place, node in enumerate(tree.body):
        docstring = place == 0 and isinstance(node, ast.Expr) and isinstance(node.value, ast.Constant)
        if not docstring and not isinstance(node, TOP):
            faults.append("L3 top")
    return faults


def faults_of_places(tree, methods):
    """What may stand in some places only: sets, Python's own functions, values of an object."""
    faults = []
    for parent in ast.walk(tree):
        for node in ast.iter_child_nodes(parent):
            called = isinstance(parent, ast.Call) and parent.func == node
            if isinstance(node, ast.Call) and isinstance(node.func, ast.Name) and node.func.id in ("set", "frozenset"):
                within = isinstance(parent, ast.Call) and isinstance(parent.func, ast.Name)
                if not (within and parent.func.id in ("len", "sorted")) and not isinstance(parent, ast.Compare):
                    faults.append("L24 set")
            if isinstance(node, ast.Name) and node.id in OWN_NAMES[:OWN_NAMES.index("Exception")]:
                if not called and not isinstance(parent, (ast.keyword, ast.Tuple)):
                    faults.append("L22 name " + node.id)
            if isinstance(node, ast.Attribute) and isinstance(node.ctx, ast.Store) and node.attr in methods:
                faults.append("L18 value " + node.attr)
            if isinstance(node, ast.Attribute) and node.attr in METHODS + list(methods) and not called:
                faults.append("L25 handed on " + node.attr)
    return faults


def faults(text, methods=()):
    """What is found in the text of one module; methods are those of the package's own classes."""
    tree = ast.parse(text)
    found = faults_of_rows(text) + faults_of_top(tree) + faults_of_names(tree, methods)
    found += faults_of_places(tree, methods)
    for node in ast.walk(tree):
        found += faults_of_node(node)
    return found
