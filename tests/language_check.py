"""Finds code of the package that lies outside the part of Python it keeps to.

It sees a part of the rules alone: nothing of L13, L18, L19, L21 to L24, L27 and
L28, and only some of the others; those are kept by reading. That nothing in the
package uses a clock, chance or files hangs on it too: without an import of
Python's own and without names beyond those listed, there is no way to them.
"""

import ast
import builtins
import re

OWN_NAMES = (
    "len range enumerate zip min max sum abs sorted int str bool list tuple dict set frozenset isinstance ord repr "
    "any all divmod reversed Exception ValueError TypeError KeyError IndexError LookupError ZeroDivisionError "
    "ArithmeticError OverflowError RuntimeError NotImplementedError AttributeError StopIteration"
).split()
OWN_METHODS = (
    "append clear copy count endswith extend find get index insert isalnum isalpha isdigit islower isspace isupper "
    "items join keys ljust lower lstrip partition pop remove replace reverse rfind rjust rpartition rsplit rstrip "
    "setdefault split splitlines startswith strip update upper values zfill bit_length"
).split()
DUNDER_METHODS = "__init__ __eq__ __repr__ __str__ __len__".split()
NODES = (
    "Module FunctionDef arguments arg ClassDef Lambda Assign AugAssign If While For Return Break Continue Pass Raise "
    "Try ExceptHandler Expr ImportFrom alias Constant List Tuple Dict Set Name Load Store BinOp Add Sub Mult FloorDiv "
    "Mod Pow BitAnd BitOr BitXor LShift RShift UnaryOp USub UAdd Invert Not BoolOp And Or Compare Eq NotEq Lt LtE Gt "
    "GtE Is IsNot In NotIn IfExp Call keyword Attribute Subscript Slice ListComp comprehension JoinedStr FormattedValue"
).split()
WORDS = re.compile(
    r"\b(type|typing|typing_extensions|enum|Enum|IntEnum|StrEnum|Flag|IntFlag|Generic|Protocol|ABC|ABCMeta|namedtuple"
    r"|NamedTuple|TypedDict|TYPE_CHECKING|abstractmethod)\b|dataclass|overload|contextmanager"
)
NOT_USED = "register mro elements open input version_info with_traceback add_note format format_map".split()
PLAIN_NAME = re.compile(r"[A-Za-z][A-Za-z0-9_]*\Z")


def text_faults(source):
    found = []
    rows = source.split("\n")
    if len(rows) - 1 > 400:
        found.append("L10 file too long")
    for number, row in enumerate(rows, 1):
        if len(row) > 120:
            found.append(f"L10 line too long, line {number}")
        if re.search(r"[^ -~]", row):
            found.append(f"L14 sign, line {number}")
        if WORDS.search(row):
            found.append(f"L17 word, line {number}")
    return found


def below_docstring(node):
    return node.body if ast.get_docstring(node) is None else node.body[1:]


def import_faults(node):
    if node.level or not node.module.startswith("fitboard."):
        return ["L2 import from outside"]
    if any(each.name == "*" for each in node.names):
        return ["L2 import of all"]
    return []


def def_faults(node):
    found = []
    if node.decorator_list:
        found.append("L4 decorator")
    if isinstance(node, ast.ClassDef):
        if len(node.bases) > 1 or node.keywords:
            found.append("L5 bases")
        for each in below_docstring(node):
            if not isinstance(each, (ast.FunctionDef, ast.Pass)):
                found.append("L5 class body")
        return found
    if node.end_lineno - node.lineno + 1 > 40:
        found.append("L10 function too long")
    return found


def name_faults(name):
    if not PLAIN_NAME.match(name) and name not in DUNDER_METHODS:
        return ["L12 name " + name]
    if name in NOT_USED:
        return ["L17 name " + name]
    return []


def use_faults(node, own):
    if isinstance(node, ast.Name) and isinstance(node.ctx, ast.Load):
        if hasattr(builtins, node.id) and node.id not in OWN_NAMES:
            return ["L8 name " + node.id]
    if isinstance(node, ast.Name) and isinstance(node.ctx, ast.Store) and hasattr(builtins, node.id):
        return ["L15 name of Python's own bound " + node.id]
    if isinstance(node, ast.arg) and hasattr(builtins, node.arg):
        return ["L15 name of Python's own bound " + node.arg]
    if isinstance(node, ast.Call) and isinstance(node.func, ast.Attribute):
        if node.func.attr not in OWN_METHODS and node.func.attr not in own:
            return ["L25 method " + node.func.attr]
    return []


def form_faults(node):
    if isinstance(node, ast.Constant) and isinstance(node.value, (float, complex, bytes)):
        return ["L7 value"]
    if isinstance(node, ast.Assign) and len(node.targets) > 1:
        return ["L6 targets"]
    if isinstance(node, (ast.For, ast.While)) and node.orelse:
        return ["L6 else behind a loop"]
    if isinstance(node, ast.Try) and node.finalbody:
        return ["L6 finally"]
    if isinstance(node, ast.ListComp) and (len(node.generators) > 1 or len(node.generators[0].ifs) > 1):
        return ["L7 comprehension"]
    if isinstance(node, ast.arguments) and (node.vararg or node.kwarg or node.kwonlyargs or node.posonlyargs):
        return ["L4 parameters"]
    if isinstance(node, ast.Expr) and not isinstance(node.value, (ast.Call, ast.Constant)):
        return ["L6 statement"]
    if isinstance(node, ast.FormattedValue) and not isinstance(node.value, ast.Name):
        return ["L7 f-string"]
    if isinstance(node, ast.Compare) and any(isinstance(each, (ast.Is, ast.IsNot)) for each in node.ops):
        if not any(isinstance(each, ast.Constant) for each in [node.left] + node.comparators):
            return ["L20 is"]
    return []


def names_in(node):
    if isinstance(node, ast.Name):
        return [node.id]
    if isinstance(node, ast.Attribute):
        return [node.attr]
    if isinstance(node, ast.arg):
        return [node.arg]
    if isinstance(node, (ast.FunctionDef, ast.ClassDef)):
        return [node.name]
    return []


def top_faults(tree):
    kinds = (ast.ImportFrom, ast.FunctionDef, ast.ClassDef, ast.Assign)
    fitting_in = all(isinstance(each, kinds) for each in below_docstring(tree))
    return [] if fitting_in else ["L3 top of the file"]


def faults(source):
    """The faults in a file of the package, a list of texts."""
    tree = ast.parse(source)
    nodes = list(ast.walk(tree))
    own = [node.name for node in nodes if isinstance(node, ast.FunctionDef)]
    found = text_faults(source) + top_faults(tree)
    for node in nodes:
        if type(node).__name__ not in NODES:
            found.append("L6 or L7 " + type(node).__name__)
        elif isinstance(node, ast.ImportFrom):
            found.extend(import_faults(node))
        elif isinstance(node, (ast.FunctionDef, ast.ClassDef)):
            found.extend(def_faults(node))
        for name in names_in(node):
            found.extend(name_faults(name))
        found.extend(use_faults(node, own) + form_faults(node))
    return found
