"""Finds breaks of LANGUAGE.md in the source of a module. It is stricter than the rules where that is simpler."""

import ast
import builtins
import re
import tokenize
from io import StringIO

BUILTINS = set(
    "len range enumerate zip min max sum abs sorted reversed int str bool list tuple dict set isinstance ord repr "
    "any all divmod Exception ValueError TypeError KeyError IndexError LookupError ZeroDivisionError "
    "ArithmeticError OverflowError RuntimeError NotImplementedError iter next".split())
METHODS = set(
    "append clear copy count endswith extend find get index insert isalnum isalpha isdigit islower isspace isupper "
    "items join keys ljust lower lstrip partition pop remove replace reverse rfind rjust rpartition rsplit rstrip "
    "setdefault split splitlines startswith strip update upper values zfill bit_length isascii isdecimal "
    "removeprefix removesuffix rindex".split())
DUNDERS = set("__init__ __eq__ __repr__ __str__ __len__ __enter__ __exit__ __call__ __iter__".split())
BARRED_WORDS = set(
    "type typing typing_extensions enum Enum IntEnum StrEnum Flag IntFlag Generic Protocol ABC ABCMeta namedtuple "
    "NamedTuple TypedDict TYPE_CHECKING abstractmethod".split())
BARRED_PARTS = ("dataclass", "overload", "contextmanager")
BARRED_NAMES = set("register mro elements open input version_info with_traceback add_note format format_map".split())
BARRED_ATTRIBUTES = set(
    "items keys values pop update append clear extend insert remove reverse setdefault sort args encode decode hex "
    "fromhex format as_integer_ratio bit_count conjugate from_bytes is_integer to_bytes".split())
MODIFYING = set("append clear extend insert pop remove reverse setdefault update sort add discard".split())
ITERATED = {"zip", "enumerate", "reversed", "range"}
VIEWS = {"items", "keys", "values"}
TAKERS = {"list", "tuple", "dict", "sorted", "sum", "any", "all", "enumerate", "zip", "min", "max"}
ISINSTANCE = {"int", "str", "bool", "bytes", "list", "tuple", "dict"}
BARRED_CATCHES = (None, "Exception", "TypeError", "BaseException", "ValueError", "LookupError", "IndexError")
BARRED_NODES = {
    ast.Global: "L6", ast.AsyncFunctionDef: "L6", ast.AsyncFor: "L6", ast.AsyncWith: "L6", ast.Await: "L6",
    ast.Import: "L2", ast.Div: "L7", ast.MatMult: "L7", ast.Set: "L24", ast.SetComp: "L24", ast.AnnAssign: "L21",
}


def name_of(node):
    return node.id if isinstance(node, ast.Name) else None


def is_table(node):
    """A list or dict at module level, which contains no list or dict (L15)."""
    if isinstance(node, ast.Dict):
        items = node.keys + node.values
    elif isinstance(node, ast.List):
        items = node.elts
    else:
        return False
    return all(is_plain(item) for item in items)


def is_plain(node):
    if isinstance(node, ast.Tuple):
        return all(is_plain(item) for item in node.elts)
    if isinstance(node, ast.UnaryOp):
        return isinstance(node.op, ast.USub) and is_plain(node.operand)
    return isinstance(node, (ast.Constant, ast.Name))


def is_docstring(node):
    return isinstance(node, ast.Expr) and isinstance(node.value, ast.Constant) and isinstance(node.value.value, str)


def text_breaks(source):
    """L10, L14, L17: lines, characters and words."""
    found = []
    lines = source.split("\n")
    if len(lines) > 401:
        found.append(("L10", 401))
    for number, line in enumerate(lines, 1):
        words = set(re.findall(r"\w+", line))
        if len(line) > 120:
            found.append(("L10", number))
        if any(not " " <= letter <= "~" for letter in line):
            found.append(("L14", number))
        if words & BARRED_WORDS or any(part in line for part in BARRED_PARTS):
            found.append(("L17", number))
    return found


def token_breaks(source):
    """L27: escapes and percent signs in strings."""
    found = []
    for token in tokenize.generate_tokens(StringIO(source).readline):
        if token.type == tokenize.STRING or "FSTRING" in tokenize.tok_name[token.type]:
            escapes = re.findall(r"\\(.)", token.string, re.DOTALL)
            if "%" in token.string or any(letter not in "nt\\'\"" for letter in escapes):
                found.append(("L27", token.start[0]))
    return found


def top_breaks(tree, package):
    """L2, L3, L15, L16: what stands at module level."""
    found = []
    bound = []
    last_import = 0
    for place, node in enumerate(tree.body):
        if isinstance(node, ast.ImportFrom):
            home = (node.module or "").startswith(package + ".") and node.level == 0
            if not home or any(alias.name == "*" for alias in node.names) or place > last_import + 1:
                found.append(("L2", node.lineno))
            last_import = place
            bound.extend(alias.asname or alias.name for alias in node.names)
        elif isinstance(node, (ast.FunctionDef, ast.ClassDef)):
            bound.append(node.name)
        elif isinstance(node, ast.Assign):
            right = is_plain(node.value) or is_table(node.value)
            if len(node.targets) != 1 or not name_of(node.targets[0]) or not right:
                found.append(("L3", node.lineno))
            bound.extend(ast.unparse(target) for target in node.targets)
        elif not (is_docstring(node) and place == 0):
            found.append(("L3", node.lineno))
    if len(set(bound)) != len(bound):
        found.append(("L15", 1))
    return found


def function_breaks(node):
    """L4, L10, L21, L28: one function."""
    found = []
    arguments = node.args
    every = arguments.posonlyargs + arguments.args + arguments.kwonlyargs
    defaults = arguments.defaults + [value for value in arguments.kw_defaults if value]
    if arguments.posonlyargs or node.decorator_list or not all(is_plain(value) for value in defaults):
        found.append(("L4", node.lineno))
    if node.end_lineno - node.lineno + 1 > 40:
        found.append(("L10", node.lineno))
    if node.returns or any(argument.annotation for argument in every):
        found.append(("L21", node.lineno))
    if arguments.kwonlyargs and (node.name in METHODS or node.name in DUNDERS - {"__init__"}):
        found.append(("L4", node.lineno))
    if node.name == "__init__" and any(isinstance(inner, ast.Return) for inner in ast.walk(node)):
        found.append(("L28", node.lineno))
    if node.name in ("__eq__", "__repr__", "__str__", "__len__"):
        found.extend(("L28", node.lineno) for inner in ast.walk(node) if not is_quiet(inner, node.name))
        found.extend(("L28", node.lineno) for inner in node.body[-1:] if not isinstance(inner, ast.Return))
    return found


def is_quiet(node, name):
    """L28: whether __eq__, __repr__, __str__ or __len__ may contain this node."""
    if isinstance(node, (ast.Assign, ast.AugAssign, ast.Delete, ast.NamedExpr, ast.For, ast.While, ast.Raise)):
        return False
    if isinstance(node, ast.Return) and name != "__eq__":
        called = node.value.func if isinstance(node.value, ast.Call) else None
        if name == "__len__":
            return name_of(called) == "len" or isinstance(node.value, ast.Constant)
        if isinstance(called, ast.Attribute):
            return called.attr == "join" and isinstance(called.value, ast.Constant)
        return isinstance(node.value, (ast.JoinedStr, ast.Constant)) or name_of(called) in ("str", "repr")
    return True


def is_simple(node):
    """L6 Finally: what may be assigned there."""
    if isinstance(node, (ast.Tuple, ast.List)):
        return all(is_simple(item) for item in node.elts)
    if isinstance(node, ast.Attribute):
        return is_simple(node.value)
    return isinstance(node, (ast.Name, ast.Constant))


def finally_breaks(node):
    """L6 Finally: only assignments, although some other statements are allowed there."""
    return [("L6", inner.lineno) for inner in node.finalbody
            if not isinstance(inner, ast.Assign) or len(inner.targets) != 1
            or not is_simple(inner.targets[0]) or not is_simple(inner.value)]


def loop_breaks(node):
    """L23: what a loop iterates over is not modified in it."""
    over = {ast.unparse(inner) for inner in ast.walk(node.iter) if isinstance(inner, (ast.Name, ast.Attribute))}
    found = []
    for inner in [inner for row in node.body for inner in ast.walk(row)]:
        changed = None
        if isinstance(inner, ast.Call) and isinstance(inner.func, ast.Attribute) and inner.func.attr in MODIFYING:
            changed = inner.func.value
        elif isinstance(inner, ast.Subscript) and not isinstance(inner.ctx, ast.Load):
            changed = inner.value
        if changed is not None and ast.unparse(changed) in over:
            found.append(("L23", inner.lineno))
    return found


def class_breaks(node):
    """L5: the body of one class."""
    found = []
    for inner in node.body:
        allowed = isinstance(inner, ast.FunctionDef) or is_docstring(inner) or isinstance(inner, ast.Pass)
        dunder = isinstance(inner, ast.FunctionDef) and inner.name.startswith("__")
        if not allowed or (dunder and inner.name not in DUNDERS):
            found.append(("L5", inner.lineno))
    if node.decorator_list or node.keywords:
        found.append(("L5", node.lineno))
    return found


def bound_names(tree):
    """The names that parameters, assignments, loops, functions and classes bind, with their lines."""
    for node in ast.walk(tree):
        if isinstance(node, ast.Name) and isinstance(node.ctx, ast.Store):
            yield node.id, node.lineno
        elif isinstance(node, ast.arg):
            yield node.arg, node.lineno
        elif isinstance(node, ast.ExceptHandler) and node.name:
            yield node.name, node.lineno


def name_breaks(tree):
    """L8, L12, L15, L17, L26: names."""
    found = []
    imports = [node for node in tree.body if isinstance(node, ast.ImportFrom)]
    taken = {alias.asname or alias.name for node in imports for alias in node.names}
    taken |= {node.name for node in tree.body if isinstance(node, ast.ClassDef)} | set(dir(builtins))
    for name, line in bound_names(tree):
        if name.startswith("_") or not name.isascii():
            found.append(("L12", line))
        if name in taken or name in BARRED_NAMES:
            found.append(("L15", line))
    own = {name for name, line in bound_names(tree)}
    for node in ast.walk(tree):
        name = name_of(node)
        if name in dir(builtins) and name not in BUILTINS | own:
            found.append(("L8", node.lineno))
        if isinstance(node, (ast.FunctionDef, ast.ClassDef)) and node.name.startswith("_") and node.name not in DUNDERS:
            found.append(("L12", node.lineno))
        if isinstance(node, ast.Attribute):
            if node.attr.startswith("_") and node.attr != "__init__" or node.attr in BARRED_NAMES:
                found.append(("L8", node.lineno))
            if isinstance(node.ctx, ast.Store) and node.attr in BARRED_ATTRIBUTES:
                found.append(("L26", node.lineno))
    return found


def call_breaks(node, parent, methods):
    """L22, L23, L24, L25: one call."""
    found = []
    name = name_of(node.func)
    attribute = node.func.attr if isinstance(node.func, ast.Attribute) else None
    if name == "isinstance":
        kinds = node.args[1].elts if isinstance(node.args[1], ast.Tuple) else [node.args[1]]
        if any(name_of(kind) in BUILTINS - ISINSTANCE for kind in kinds):
            found.append(("L22", node.lineno))
    if name in ITERATED or attribute in VIEWS:
        looped = isinstance(parent, (ast.For, ast.comprehension)) and parent.iter is node
        if not looped and not (isinstance(parent, ast.Call) and name_of(parent.func) in TAKERS):
            found.append(("L23", node.lineno))
    if name in ("set", "frozenset"):
        found.append(("L24", node.lineno))
    if attribute and attribute not in METHODS | methods | {"__init__"}:
        found.append(("L25", node.lineno))
    if attribute in METHODS and node.keywords:
        found.append(("L22", node.lineno))
    return found


def statement_breaks(node):
    """L6, L7, L19, L20, L21, L24: one node of the tree."""
    found = [rule for kind, rule in BARRED_NODES.items() if isinstance(node, kind)]
    if isinstance(node, ast.Constant) and isinstance(node.value, (float, complex, type(...))):
        found.append("L7")
    if isinstance(node, ast.GeneratorExp):
        found.append("L7")
    if isinstance(node, ast.Raise) and node.exc is not None:
        if not isinstance(node.exc, ast.Call) or not name_of(node.exc.func) or name_of(node.exc.func) in BUILTINS:
            found.append("L19")
    if isinstance(node, ast.ExceptHandler):
        kinds = node.type.elts if isinstance(node.type, ast.Tuple) else [node.type]
        if any(name_of(kind) in BARRED_CATCHES for kind in kinds):
            found.append("L19")
    if isinstance(node, ast.Compare):
        for sign, right in zip(node.ops, node.comparators):
            word = isinstance(right, ast.Constant) and (right.value is None or isinstance(right.value, bool))
            if isinstance(sign, (ast.Is, ast.IsNot)) and not word:
                found.append("L20")
    if isinstance(node, ast.BinOp) and isinstance(node.op, ast.Pow) and not isinstance(node.right, ast.Constant):
        found.append("L27")
    return [(rule, getattr(node, "lineno", 0)) for rule in found]


def breaks_of(source, package="treelamps", methods=frozenset()):
    """The ascending list of (rule, line) for the source of one module; methods are the package's own ones."""
    tree = ast.parse(source)
    found = text_breaks(source) + token_breaks(source) + top_breaks(tree, package) + name_breaks(tree)
    for parent in ast.walk(tree):
        found.extend(statement_breaks(parent))
        if isinstance(parent, ast.FunctionDef):
            found.extend(function_breaks(parent))
        if isinstance(parent, ast.ClassDef):
            found.extend(class_breaks(parent))
        if isinstance(parent, ast.Try):
            found.extend(finally_breaks(parent))
        if isinstance(parent, ast.For):
            found.extend(loop_breaks(parent))
        for node in ast.iter_child_nodes(parent):
            if isinstance(node, ast.Call):
                found.extend(call_breaks(node, parent, methods))
    return sorted(set(found))
