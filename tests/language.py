"""Tells where a source breaks the rules of the program's part of Python, as far as a walk over it can see."""

import ast
import builtins
import re

PACKAGE = "balancehall"

ALLOWED_BUILTINS = set(
    """len range enumerate zip min max sum abs sorted reversed int str bool list tuple dict set frozenset isinstance
    ord repr any all divmod Exception ValueError TypeError KeyError IndexError LookupError ZeroDivisionError
    ArithmeticError OverflowError RuntimeError NotImplementedError AttributeError StopIteration""".split()
)
ALLOWED_METHODS = set(
    """append clear copy count endswith extend find get index insert isalnum isalpha isdigit islower isspace isupper
    items join keys ljust lower lstrip partition pop remove replace reverse rfind rjust rpartition rsplit rstrip
    setdefault split splitlines startswith strip update upper values zfill bit_length""".split()
)
DUNDER_METHODS = {"__init__", "__eq__", "__repr__", "__str__", "__len__"}
ALLOWED_NODES = tuple(
    getattr(ast, name)
    for name in """Module Expr Assign AugAssign If While For Return Break Continue Pass Raise Try ExceptHandler
    FunctionDef ClassDef ImportFrom Import alias arguments arg Lambda ListComp comprehension Name Attribute Subscript
    Slice Call keyword Constant List Tuple Dict Set JoinedStr FormattedValue BinOp UnaryOp BoolOp Compare IfExp
    expr_context operator unaryop boolop cmpop""".split()
)
BANNED_NODES = (ast.Div, ast.MatMult)
BANNED_WORDS = (
    """type typing typing_extensions enum Enum IntEnum StrEnum Flag IntFlag Generic Protocol ABC ABCMeta namedtuple
    NamedTuple TypedDict TYPE_CHECKING abstractmethod"""
).split()
BANNED_PIECES = ["dataclass", "overload", "contextmanager"]
BANNED_NAMES = set(
    """register mro elements open input version_info with_traceback add_note attrgetter breakpoint builtins compile
    copyright credits delattr dir eval exec exit gc getattr globals hasattr help id importlib license locals
    methodcaller os quit setattr super type vars sys""".split()
)
BANNED_ATTRIBUTES = set(
    "register mro elements open input version_info with_traceback add_note format format_map".split()
)
ALLOWED_VALUES = set("count index title find get join lower upper split strip copy add".split())
PYTHON_OWN = set(
    name for kind in (str, int, list, dict, set, bytes, tuple, ValueError) for name in dir(kind) if name[0] != "_"
)
WALKED = set("zip enumerate reversed range items keys values".split())
WALKERS = set("list tuple dict sorted sum any all enumerate zip min max join".split())
READERS = set("get items keys values index count copy".split())
COPIERS = set("list tuple dict sorted len sum min max any all enumerate reversed zip".split())
KEYWORDS = {
    "sorted": {"key", "reverse"}, "min": {"key", "default"}, "max": {"key", "default"}, "sum": {"start"},
    "enumerate": {"start"}, "zip": {"strict"},
}
PLAIN_NAME = re.compile(r"[A-Za-z][A-Za-z0-9_]*\Z")


def faults(source):
    """A list of tuples (rule, row), sorted."""
    tree = ast.parse(source)
    found = text_faults(source) + top_faults(tree) + shadow_faults(tree) + kept_faults(tree)
    for node in ast.walk(tree):
        found += node_faults(node)
        for inner in ast.iter_child_nodes(node):
            found += place_faults(inner, node)
    return sorted(found)


def text_faults(source):
    found = []
    rows = source.split("\n")
    if len(rows) - 1 > 400:
        found.append(("L10", 401))
    for place, row in enumerate(rows, start=1):
        if len(row) > 120:
            found.append(("L10", place))
        if any(not " " <= sign <= "~" for sign in row):
            found.append(("L14", place))
        words = re.findall(r"\w+", row)
        if set(words) & set(BANNED_WORDS) or any(piece in row for piece in BANNED_PIECES):
            found.append(("L17", place))
    return found


def top_faults(tree):
    found = []
    bound = set()
    for place, node in enumerate(tree.body):
        docstring = place == 0 and isinstance(node, ast.Expr) and isinstance(node.value, ast.Constant)
        if not docstring and not isinstance(node, (ast.ImportFrom, ast.FunctionDef, ast.ClassDef, ast.Assign)):
            found.append(("L3", node.lineno))
        if isinstance(node, ast.Assign) and not plain_value(node.value, bound):
            found.append(("L3", node.lineno))
        for name in top_names(node):
            if name in bound:
                found.append(("L15", node.lineno))
            bound.add(name)
    return found


def plain_value(node, bound):
    """A number, a text or their like, a name that is bound above, or a list, tuple or dict of these."""
    if isinstance(node, ast.Dict):
        return all(each is not None and plain_value(each, bound) for each in node.keys + node.values)
    if isinstance(node, (ast.List, ast.Tuple)):
        return all(plain_value(each, bound) for each in node.elts)
    return isinstance(node, ast.Constant) or (isinstance(node, ast.Name) and node.id in bound)


def kept_faults(tree):
    """Lists and dicts of the file's top that hold others, or are used otherwise than read on the spot."""
    kept = {}
    found = []
    for node in tree.body:
        if isinstance(node, ast.Assign) and isinstance(node.value, (ast.List, ast.Dict)):
            kept.update((name, node) for name in top_names(node))
            inner = [each for each in ast.walk(node.value) if isinstance(each, (ast.List, ast.Dict))]
            found += [("L15", node.lineno)] * (len(inner) > 1)
    for around in ast.walk(tree):
        for node in ast.iter_child_nodes(around):
            if isinstance(node, ast.Name) and node.id in kept and kept[node.id] is not around:
                if not only_read(node, around):
                    found.append(("L15", node.lineno))
    return found


def only_read(node, around):
    if isinstance(around, ast.Subscript):
        return around.value is node and isinstance(around.ctx, ast.Load)
    if isinstance(around, (ast.For, ast.comprehension)):
        return around.iter is node
    if isinstance(around, ast.Attribute):
        return around.attr in READERS
    return isinstance(around, ast.Compare) or called_name(around) in COPIERS


def top_names(node):
    if isinstance(node, (ast.FunctionDef, ast.ClassDef)):
        return [node.name]
    if isinstance(node, ast.ImportFrom):
        return [each.asname or each.name for each in node.names]
    if isinstance(node, ast.Assign):
        return [each.id for each in node.targets if isinstance(each, ast.Name)]
    return []


def shadow_faults(tree):
    """Parameters and locals that are called like a class or an import of their file."""
    taken = set()
    for node in tree.body:
        if isinstance(node, (ast.ClassDef, ast.ImportFrom)):
            taken.update(top_names(node))
    found = []
    for node in ast.walk(tree):
        name = node.arg if isinstance(node, ast.arg) else None
        if isinstance(node, ast.Name) and isinstance(node.ctx, ast.Store):
            name = node.id
        if name in taken:
            found.append(("L15", node.lineno))
    return found


def node_faults(node):
    found = []
    if isinstance(node, BANNED_NODES) or not isinstance(node, ALLOWED_NODES):
        found.append("L6")
    for asked, check in CHECKS:
        if isinstance(node, asked):
            found += check(node)
    return [(rule, getattr(node, "lineno", 0)) for rule in found]


def called_name(node):
    if not isinstance(node, ast.Call):
        return None
    return node.func.id if isinstance(node.func, ast.Name) else getattr(node.func, "attr", None)


def place_faults(node, around):
    """What hangs on where a node stands: straight within which other one."""
    found = []
    if called_name(node) in WALKED and not walked_at_once(node, around):
        found.append(("L23", node.lineno))
    if (called_name(node) in ("set", "frozenset") or isinstance(node, ast.Set)) and not set_used_at_once(around):
        found.append(("L24", node.lineno))
    if isinstance(node, ast.Name) and own_function_kept(node, around):
        found.append(("L22", node.lineno))
    return found


def walked_at_once(node, around):
    if isinstance(around, (ast.For, ast.comprehension)):
        return around.iter is node
    return called_name(around) in WALKERS and around.args[:1] == [node]


def set_used_at_once(around):
    if isinstance(around, ast.BinOp):
        return isinstance(around.op, (ast.Sub, ast.BitAnd, ast.BitOr, ast.BitXor))
    return isinstance(around, ast.Compare) or called_name(around) in ("sorted", "len")


def own_function_kept(node, around):
    own = getattr(builtins, node.id, None)
    if own is None or isinstance(own, type) or not isinstance(node.ctx, ast.Load):
        return False
    return not isinstance(around, ast.keyword) and not (isinstance(around, ast.Call) and around.func is node)


def call_faults(node):
    name = called_name(node)
    told = set(each.arg for each in node.keywords)
    own = isinstance(node.func, ast.Name) and hasattr(builtins, name) or name in ALLOWED_METHODS
    return ["L22"] if own and told - KEYWORDS.get(name, set()) else []


def import_faults(node):
    found = []
    if isinstance(node, ast.Import) or node.level or not (node.module or "").startswith(PACKAGE + "."):
        found.append("L2")
    if any(each.name == "*" for each in node.names):
        found.append("L2")
    return found


def def_faults(node):
    found = []
    if node.end_lineno - node.lineno + 1 > 40:
        found.append("L10")
    if node.decorator_list:
        found.append("L4")
    if node.returns is not None:
        found.append("L21")
    if node.name.startswith("_") and node.name not in DUNDER_METHODS:
        found.append("L12")
    if node.name == "__init__" and any(isinstance(each, ast.Return) and each.value for each in ast.walk(node)):
        found.append("L28")
    return found


def arguments_faults(node):
    found = []
    if node.vararg or node.kwarg or node.kwonlyargs or node.posonlyargs:
        found.append("L4")
    for each in node.args:
        if each.annotation is not None:
            found.append("L21")
        found += bound_name_faults(each.arg)
    return found


def bound_name_faults(name):
    found = []
    if not PLAIN_NAME.match(name):
        found.append("L12")
    if hasattr(builtins, name):
        found.append("L15")
    return found


def class_faults(node):
    found = []
    if node.decorator_list or node.keywords or len(node.bases) > 1:
        found.append("L5")
    if not all(isinstance(each, (ast.FunctionDef, ast.Pass)) for each in node.body):
        found.append("L5")
    names = [each.name for each in node.body if isinstance(each, ast.FunctionDef)]
    if len(names) != len(set(names)):
        found.append("L18")
    return found


def name_faults(node):
    if isinstance(node.ctx, ast.Store):
        return bound_name_faults(node.id)
    if node.id in BANNED_NAMES:
        return ["L17"]
    if hasattr(builtins, node.id) and node.id not in ALLOWED_BUILTINS:
        return ["L8"]
    return []


def attribute_faults(node):
    found = []
    if node.attr in BANNED_ATTRIBUTES:
        found.append("L17")
    if node.attr.startswith("_") and node.attr not in DUNDER_METHODS:
        found.append("L12")
    if isinstance(node.ctx, ast.Store) and node.attr in PYTHON_OWN - ALLOWED_VALUES:
        found.append("L26")
    return found


def expression_row_faults(node):
    if isinstance(node.value, ast.Call):
        return []
    # The one docstring that the rules name is the file's own.
    if isinstance(node.value, ast.Constant) and node.col_offset == 0 and node.lineno == 1:
        return []
    return ["L6"]


def assign_faults(node):
    if len(node.targets) > 1 or isinstance(node.targets[0], (ast.Tuple, ast.List)):
        return ["L6"]
    return []


def loop_faults(node):
    return ["L6"] if node.orelse else []


def try_faults(node):
    found = ["L6"] if node.finalbody else []
    for each in node.handlers:
        names = [part.id for part in ast.walk(each.type) if isinstance(part, ast.Name)] if each.type else [None]
        if set(names) & {None, "Exception", "TypeError", "BaseException"}:
            found.append("L19")
    return found


def comprehension_faults(node):
    if len(node.generators) > 1 or any(len(each.ifs) > 1 or each.is_async for each in node.generators):
        return ["L7"]
    return []


def constant_faults(node):
    if isinstance(node.value, (float, complex, bytes)) or node.value is ...:
        return ["L7"]
    if isinstance(node.value, str) and "%" in node.value:
        return ["L27"]
    return []


def formatted_faults(node):
    if not isinstance(node.value, ast.Name) or node.format_spec or node.conversion not in (-1, ord("r")):
        return ["L7"]
    return []


def compare_faults(node):
    sides = [node.left] + node.comparators
    for place, sign in enumerate(node.ops):
        if isinstance(sign, (ast.Is, ast.IsNot)):
            pair = sides[place:place + 2]
            if not any(isinstance(each, ast.Constant) and each.value in (None, True, False) for each in pair):
                return ["L20"]
    return []


def power_faults(node):
    if not isinstance(node.op, ast.Pow):
        return []
    written = isinstance(node.right, ast.Constant) and isinstance(node.right.value, int)
    return [] if written and 0 <= node.right.value <= 64 else ["L27"]


CHECKS = (
    ((ast.Import, ast.ImportFrom), import_faults),
    (ast.FunctionDef, def_faults),
    (ast.arguments, arguments_faults),
    (ast.ClassDef, class_faults),
    (ast.Name, name_faults),
    (ast.Attribute, attribute_faults),
    (ast.Expr, expression_row_faults),
    (ast.Assign, assign_faults),
    ((ast.For, ast.While), loop_faults),
    (ast.Try, try_faults),
    (ast.ListComp, comprehension_faults),
    (ast.Constant, constant_faults),
    (ast.FormattedValue, formatted_faults),
    (ast.Compare, compare_faults),
    (ast.BinOp, power_faults),
    (ast.Call, call_faults),
)


def package_faults(sources):
    """Of a dict from module names to sources: what only the whole package shows, as tuples (rule, name)."""
    trees = {name: ast.parse(source) for name, source in sources.items()}
    methods, values, called = members(trees.values())
    found = [("L18", name) for name in methods & values]
    found += [("L25", name) for name in called - methods - ALLOWED_METHODS - DUNDER_METHODS]
    found += [("L16", name) for name in trees if name in drawn_from(name, trees)]
    found += [("L16", name) for name in trees if not drawn_where_defined(trees[name], trees)]
    return sorted(found)


def drawn_where_defined(tree, trees):
    for node in tree.body:
        if isinstance(node, ast.ImportFrom):
            others = [each for each in trees[node.module].body if not isinstance(each, ast.ImportFrom)]
            if not {each.name for each in node.names} <= {name for each in others for name in top_names(each)}:
                return False
    return True


def members(trees):
    methods, values, called = set(), set(), set()
    for tree in trees:
        for node in ast.walk(tree):
            if isinstance(node, ast.ClassDef):
                methods.update(each.name for each in node.body if isinstance(each, ast.FunctionDef))
            elif isinstance(node, ast.Attribute) and isinstance(node.ctx, ast.Store):
                values.add(node.attr)
            elif isinstance(node, ast.Call) and isinstance(node.func, ast.Attribute):
                called.add(node.func.attr)
    return methods, values, called


def drawn_from(name, trees):
    reached, ahead = set(), [name]
    while ahead:
        for node in trees[ahead.pop()].body:
            if isinstance(node, ast.ImportFrom) and node.module in trees and node.module not in reached:
                reached.add(node.module)
                ahead.append(node.module)
    return reached
