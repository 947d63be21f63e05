"""Finds code of the package that lies outside the part of Python it keeps to.

It sees a part of the rules alone: nothing of L13, L19 and L28, and only some of
the others; those are kept by reading. It is narrower than the rules in places:
no set, no annotation and no `**` at all. That nothing in the package uses a
clock, chance or files hangs on it too: without an import of Python's own and
without names beyond those listed, there is no way to them.
"""

import ast
import builtins
import re

OWN_NAMES = (
    "len range enumerate zip min max sum abs sorted int str bool list tuple dict isinstance ord repr "
    "any all divmod reversed Exception ValueError TypeError KeyError IndexError LookupError ZeroDivisionError "
    "ArithmeticError OverflowError RuntimeError NotImplementedError AttributeError StopIteration"
).split()
OWN_METHODS = (
    "append clear copy count endswith extend find get index insert isalnum isalpha isdigit islower isspace isupper "
    "items join keys ljust lower lstrip partition pop remove replace reverse rfind rjust rpartition rsplit rstrip "
    "setdefault split splitlines startswith strip update upper values zfill bit_length"
).split()
DUNDER_METHODS = "__init__ __eq__ __repr__ __str__ __len__".split()
NODES = (
    "Module FunctionDef arguments arg ClassDef Lambda Assign AugAssign If While For Return Break Continue Pass Raise "
    "Try ExceptHandler Expr ImportFrom alias Constant List Tuple Dict Name Load Store BinOp Add Sub Mult FloorDiv "
    "Mod BitAnd BitOr BitXor LShift RShift UnaryOp USub UAdd Invert Not BoolOp And Or Compare Eq NotEq Lt LtE Gt "
    "GtE Is IsNot In NotIn IfExp Call keyword Attribute Subscript Slice ListComp comprehension JoinedStr FormattedValue"
).split()
WORDS = re.compile(
    r"\b(type|typing|typing_extensions|enum|Enum|IntEnum|StrEnum|Flag|IntFlag|Generic|Protocol|ABC|ABCMeta|namedtuple"
    r"|NamedTuple|TypedDict|TYPE_CHECKING|abstractmethod)\b|dataclass|overload|contextmanager"
)
NOT_USED = "register mro elements open input version_info with_traceback add_note format format_map".split()
WALKED = "zip enumerate reversed range".split()
WALKED_METHODS = "items keys values".split()
WALKERS = "list tuple dict sorted sum any all enumerate zip min max".split()
VALUE_NAMES = "count index title find get join lower upper split strip copy add".split()
METHOD_NAMES = ["add", "discard"] + OWN_METHODS
PYTHONS_OWN = {name for kind in (str, int, list, tuple, dict, set, frozenset, bytes) for name in dir(kind)}
PLAIN_NAME = re.compile(r"[A-Za-z][A-Za-z0-9_]*\Z")


def text_faults(source):
    found = []
    rows = source.split("\n")
    if len(rows) - 1 > 400:
        found.append("L10 file too long")
    for number, row in enumerate(rows, 1):
        if len(row) > 120:
            found.append(f"L10 line too long, line {number}")
        if re.search(r"[^ -~]", row):
            found.append(f"L14 sign, line {number}")
        if WORDS.search(row):
            found.append(f"L17 word, line {number}")
    return found


def below_docstring(node):
    return node.body if ast.get_docstring(node) is None else node.body[1:]


def import_faults(node):
    if node.level or not node.module.startswith("fitboard."):
        return ["L2 import from outside"]
    if any(each.name == "*" for each in node.names):
        return ["L2 import of all"]
    return []


def def_faults(node):
    found = []
    if node.decorator_list:
        found.append("L4 decorator")
    if isinstance(node, ast.ClassDef):
        if len(node.bases) > 1 or node.keywords:
            found.append("L5 bases")
        for each in below_docstring(node):
            if not isinstance(each, (ast.FunctionDef, ast.Pass)):
                found.append("L5 class body")
        return found
    if node.end_lineno - node.lineno + 1 > 40:
        found.append("L10 function too long")
    return found


def name_faults(name):
    if not PLAIN_NAME.match(name) and name not in DUNDER_METHODS:
        return ["L12 name " + name]
    if name in NOT_USED:
        return ["L17 name " + name]
    return []


def use_faults(node, own):
    if isinstance(node, ast.Name) and isinstance(node.ctx, ast.Load):
        if hasattr(builtins, node.id) and node.id not in OWN_NAMES:
            return ["L8 name " + node.id]
    if isinstance(node, ast.Name) and isinstance(node.ctx, ast.Store) and hasattr(builtins, node.id):
        return ["L15 name of Python's own bound " + node.id]
    if isinstance(node, ast.arg) and hasattr(builtins, node.arg):
        return ["L15 name of Python's own bound " + node.arg]
    if isinstance(node, ast.Call) and isinstance(node.func, ast.Attribute):
        if node.func.attr not in OWN_METHODS and node.func.attr not in own:
            return ["L25 method " + node.func.attr]
    return []


def form_faults(node):
    if isinstance(node, ast.Constant) and isinstance(node.value, (float, complex, bytes)):
        return ["L7 value"]
    if isinstance(node, ast.Assign) and len(node.targets) > 1:
        return ["L6 targets"]
    if isinstance(node, (ast.For, ast.While)) and node.orelse:
        return ["L6 else behind a loop"]
    if isinstance(node, ast.Try) and node.finalbody:
        return ["L6 finally"]
    if isinstance(node, ast.ListComp) and (len(node.generators) > 1 or len(node.generators[0].ifs) > 1):
        return ["L7 comprehension"]
    if isinstance(node, ast.arguments) and (node.vararg or node.kwarg or node.kwonlyargs or node.posonlyargs):
        return ["L4 parameters"]
    if isinstance(node, ast.Expr) and not isinstance(node.value, (ast.Call, ast.Constant)):
        return ["L6 statement"]
    if isinstance(node, ast.FormattedValue) and not isinstance(node.value, ast.Name):
        return ["L7 f-string"]
    if isinstance(node, ast.Compare) and any(isinstance(each, (ast.Is, ast.IsNot)) for each in node.ops):
        sides = [each.value for each in [node.left] + node.comparators if isinstance(each, ast.Constant)]
        if not any(each is None or each is True or each is False for each in sides):
            return ["L20 is"]
    if isinstance(node, ast.FunctionDef) and node.returns or isinstance(node, ast.arg) and node.annotation:
        return ["L21 annotation"]
    if isinstance(node, ast.Constant) and isinstance(node.value, str) and "%" in node.value:
        return ["L27 text"]
    return []


def walk_faults(nodes):
    """What must be walked on the spot stands behind a `for`, or first in a call that walks it."""
    fine = []
    for node in nodes:
        if isinstance(node, (ast.For, ast.comprehension)):
            fine.append(node.iter)
        elif isinstance(node, ast.Call) and isinstance(node.func, ast.Name) and node.func.id in WALKERS:
            fine.extend(node.args[:1])
    found = []
    for node in nodes:
        if isinstance(node, ast.Call) and not any(node is each for each in fine):
            name = node.func.id if isinstance(node.func, ast.Name) else None
            method = node.func.attr if isinstance(node.func, ast.Attribute) else None
            if name in WALKED or method in WALKED_METHODS:
                found.append("L23 kept")
    return found


def defined_in(tree):
    """The names of the functions, classes and plain values at a file's top."""
    names = [node.name for node in tree.body if isinstance(node, (ast.FunctionDef, ast.ClassDef))]
    for node in tree.body:
        if isinstance(node, ast.Assign):
            names.extend(each.id for each in node.targets if isinstance(each, ast.Name))
    return names


def imported_in(tree):
    return [each.asname or each.name for node in tree.body if isinstance(node, ast.ImportFrom) for each in node.names]


def classes_in(tree):
    return [node for node in tree.body if isinstance(node, ast.ClassDef)]


def binding_faults(tree, nodes):
    names = defined_in(tree) + imported_in(tree)
    found = ["L15 bound twice " + name for name in names if names.count(name) > 1]
    taken = imported_in(tree) + [node.name for node in classes_in(tree)]
    for node in nodes:
        bound = node.arg if isinstance(node, ast.arg) else None
        if isinstance(node, ast.Name) and isinstance(node.ctx, ast.Store):
            bound = node.id
        if bound in taken:
            found.append("L15 called like a class or an import " + bound)
    return found


def methods_in(tree):
    return [each.name for node in classes_in(tree) for each in node.body if isinstance(each, ast.FunctionDef)]


def values_in(tree):
    return [node.attr for node in ast.walk(tree) if isinstance(node, ast.Attribute) and isinstance(node.ctx, ast.Store)]


def member_faults(trees):
    """What must hold for the names of methods and values over the whole package."""
    methods = [name for tree in trees for name in methods_in(tree) if name not in DUNDER_METHODS]
    values = [name for tree in trees for name in values_in(tree)]
    found = ["L18 method and value " + name for name in methods if name in values]
    found += ["L26 method " + name for name in methods if name in PYTHONS_OWN and name not in METHOD_NAMES]
    found += ["L26 value " + name for name in values if name in PYTHONS_OWN and name not in VALUE_NAMES]
    return found


def draw_faults(trees):
    """Names come from the very file that defines them, and no two files draw from one another."""
    found = []
    draws = {}
    for name, tree in trees.items():
        drawn = [node for node in tree.body if isinstance(node, ast.ImportFrom)]
        draws[name] = [node.module for node in drawn]
        for node in drawn:
            there = defined_in(trees[node.module]) if node.module in trees else []
            found += ["L16 not defined there " + each.name for each in node.names if each.name not in there]
    for name in draws:
        reached = []
        ahead = list(draws[name])
        while ahead:
            each = ahead.pop()
            if each not in reached:
                reached.append(each)
                ahead.extend(draws.get(each, []))
        if name in reached:
            found.append("L16 drawn in a ring " + name)
    return found


def names_in(node):
    if isinstance(node, ast.Name):
        return [node.id]
    if isinstance(node, ast.Attribute):
        return [node.attr]
    if isinstance(node, ast.arg):
        return [node.arg]
    if isinstance(node, (ast.FunctionDef, ast.ClassDef)):
        return [node.name]
    return []


def top_faults(tree):
    kinds = (ast.ImportFrom, ast.FunctionDef, ast.ClassDef, ast.Assign)
    fitting_in = all(isinstance(each, kinds) for each in below_docstring(tree))
    return [] if fitting_in else ["L3 top of the file"]


def faults(source, own=()):
    """The faults in a file of the package, a list of texts; `own` are the names of the package's own methods."""
    tree = ast.parse(source)
    nodes = list(ast.walk(tree))
    found = text_faults(source) + top_faults(tree) + walk_faults(nodes) + binding_faults(tree, nodes)
    for node in nodes:
        if type(node).__name__ not in NODES:
            found.append("L6 or L7 " + type(node).__name__)
        elif isinstance(node, ast.ImportFrom):
            found.extend(import_faults(node))
        elif isinstance(node, (ast.FunctionDef, ast.ClassDef)):
            found.extend(def_faults(node))
        for name in names_in(node):
            found.extend(name_faults(name))
        found.extend(use_faults(node, own) + form_faults(node))
    return found


def package_faults(sources):
    """The faults in the package's files, a list of texts; the sources are a dict by full module names."""
    trees = {name: ast.parse(source) for name, source in sources.items()}
    own = [each for tree in trees.values() for each in methods_in(tree)]
    found = member_faults(list(trees.values())) + draw_faults(trees)
    for name in sources:
        found += [name + ": " + fault for fault in faults(sources[name], own)]
    return found
