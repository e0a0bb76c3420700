"""A short check of the rules of LANGUAGE.md, as far as the form of the code shows them."""

import ast
import builtins
import re

LIBRARY = {
    "heapq": ("heappush", "heappop", "heapify", "heapreplace", "heappushpop"),
    "math": ("gcd", "lcm", "isqrt", "comb", "perm", "factorial"),
    "__future__": ("annotations",),
}
BUILTINS = set("""
    len range enumerate zip min max sum abs sorted reversed int str bool list tuple dict set isinstance ord repr any all
    divmod Exception ValueError TypeError KeyError IndexError LookupError ZeroDivisionError ArithmeticError
    OverflowError RuntimeError NotImplementedError NotImplemented iter next map property classmethod staticmethod super
""".split())
ALL_BUILTINS = {name for name in dir(builtins) if not name.startswith("_")}
METHODS = set("""
    append clear copy count endswith extend find get index insert isalnum isalpha isdigit islower isspace isupper items
    join keys ljust lower lstrip partition pop remove replace reverse rfind rjust rpartition rsplit rstrip setdefault
    split splitlines startswith strip update upper values zfill bit_length add discard sort
""".split())
DOUBLE = set("""
    __init__ __eq__ __repr__ __str__ __len__ __enter__ __exit__ __call__ __iter__ __lt__ __le__ __gt__ __ge__ __ne__
    __add__ __sub__ __mul__ __neg__ __bool__ __contains__ __getitem__ __setitem__
""".split())
NEVER_NAMED = set("""
    register mro elements open input law version_info with_traceback add_note
    attrgetter breakpoint builtins compile copyright credits delattr dir eval exec exit gc getattr globals hasattr help
    id importlib license locals methodcaller os quit setattr type vars sys __name__ chr
""".split())
NEVER_SPELT = re.compile(
    r"\b(type|typing|typing_extensions|enum|Enum|IntEnum|StrEnum|Flag|IntFlag|Generic|Protocol|ABC|ABCMeta|namedtuple"
    r"|NamedTuple|TypedDict|TYPE_CHECKING|abstractmethod)\b|dataclass|overload|contextmanager"
)
BAD_STARTS = ("_wall", "_pe_", "_dcw_", "_enum_", "_cm_", "_twin_re_", "_lay_", "_law_", "_stub_", "_sre", "_WallAttr")
TAKES_A_LIST = ("any", "all", "min", "max", "sum", "sorted")
CHANGING = ("append", "clear", "extend", "insert", "pop", "remove", "reverse", "setdefault", "update", "add", "discard",
            "sort")
CAUGHT_FREELY = ("KeyError", "ZeroDivisionError", "ValueError", "LookupError", "IndexError")
FUNCTIONS = (ast.FunctionDef, ast.AsyncFunctionDef)
BARRED_NODES = (
    (ast.Global, "L6"), (ast.AsyncFunctionDef, "L6"), (ast.AsyncFor, "L6"), (ast.AsyncWith, "L6"), (ast.Await, "L6"),
    (ast.Div, "L7"), (ast.MatMult, "L7"),
)


def faults(path, text, package):
    """The faults of a file, each like `L10 12 why`. The package is a dict from paths to texts."""
    tree = ast.parse(text)
    found = lines_faults(text) + module_faults(tree) + import_faults(tree, path, package)
    own = own_attributes(package)
    for node in ast.walk(tree):
        found += node_faults(node) + name_faults(node) + call_faults(node, own)
    found += binding_faults(tree) + word_faults(text, tree) + power_faults(tree) + set_faults(tree)
    return found + walk_faults(tree)


def lines_faults(text):
    found = []
    lines = text.split("\n")
    if len(text.splitlines()) > 399:
        found.append("L10 400 a file of more than 399 lines")
    if text and not text.endswith("\n"):
        found.append(f"L14 {len(lines)} no line feed at the end")
    for at, line in enumerate(lines, 1):
        if len(line) > 120:
            found.append(f"L10 {at} a line of more than 120 characters")
        if not all(" " <= letter <= "~" for letter in line):
            found.append(f"L14 {at} a character that is none from the space to ~")
        if "_wall" in line or "_WallAttr" in line:
            found.append(f"L12 {at} a barred word")
    return found


def is_plain(node):
    """Whether an expression at module level is a plain value."""
    if isinstance(node, ast.Constant):
        return not isinstance(node.value, float)
    if isinstance(node, (ast.Tuple, ast.List)):
        return all(is_plain(part) for part in node.elts)
    if isinstance(node, ast.Dict):
        return all(is_plain(part) for part in node.keys + node.values)
    if isinstance(node, ast.UnaryOp):
        return is_plain(node.operand)
    if isinstance(node, ast.BinOp):
        return is_plain(node.left) and is_plain(node.right)
    return False


def module_faults(tree):
    found = []
    imports_over = False
    for at, node in enumerate(tree.body):
        if at == 0 and isinstance(node, ast.Expr) and isinstance(node.value, ast.Constant):
            continue
        if isinstance(node, (ast.Import, ast.ImportFrom)):
            if imports_over:
                found.append(f"L2 {node.lineno} an import that does not stand at the top")
            continue
        imports_over = True
        if isinstance(node, (ast.FunctionDef, ast.ClassDef)):
            continue
        if isinstance(node, ast.Assign) and len(node.targets) == 1 and isinstance(node.targets[0], ast.Name):
            if is_plain(node.value):
                continue
        found.append(f"L3 {node.lineno} no docstring, import, function, class or plain value")
    for node in ast.walk(tree):
        if isinstance(node, ast.ClassDef) and node not in tree.body:
            found.append(f"L15 {node.lineno} a class that is not at module level")
        if isinstance(node, (ast.Import, ast.ImportFrom)) and node not in tree.body:
            found.append(f"L2 {node.lineno} an import inside")
    return found


def bound_at_top(tree):
    """The names that a file itself defines."""
    found = []
    for node in tree.body:
        if isinstance(node, (ast.FunctionDef, ast.ClassDef)):
            found.append(node.name)
        elif isinstance(node, ast.Assign):
            found += [target.id for target in node.targets if isinstance(target, ast.Name)]
    return found


def path_of(module):
    return module.replace(".", "/") + ".py"


def imported_paths(text):
    """The files of the package that a file imports from."""
    tree = ast.parse(text)
    return [path_of(node.module) for node in tree.body if isinstance(node, ast.ImportFrom) and node.module]


def import_faults(tree, path, package):
    found = []
    for node in tree.body:
        if isinstance(node, ast.Import):
            found.append(f"L16 {node.lineno} an import without from")
        if not isinstance(node, ast.ImportFrom):
            continue
        names = [part.name for part in node.names]
        if node.level or "*" in names or not node.module or any(part.asname for part in node.names):
            found.append(f"L2 {node.lineno} no full name, or a star, or as")
        elif node.module in LIBRARY:
            if not set(names) <= set(LIBRARY[node.module]):
                found.append(f"L2 {node.lineno} not to be imported from {node.module}")
        elif path_of(node.module) not in package:
            found.append(f"L2 {node.lineno} no file of the package")
        elif not set(names) <= set(bound_at_top(ast.parse(package[path_of(node.module)]))):
            found.append(f"L16 {node.lineno} not the file that defines the name")
    if leads_back(path, package):
        found.append("L16 1 files that import from each other")
    return found


def leads_back(path, package):
    seen, waiting = set(), [path]
    while waiting:
        for other in imported_paths(package.get(waiting.pop(), "")):
            if other == path:
                return True
            if other not in seen:
                seen.add(other)
                waiting.append(other)
    return False


def own_attributes(package):
    """All names of methods and attributes of the classes of the package."""
    found = set()
    for text in package.values():
        for node in ast.walk(ast.parse(text)):
            if isinstance(node, ast.ClassDef):
                found.update(part.name for part in node.body if isinstance(part, ast.FunctionDef))
            if isinstance(node, ast.Attribute) and isinstance(node.ctx, ast.Store):
                found.add(node.attr)
    return found


def node_faults(node):
    found = [f"{rule} {node.lineno} a barred statement or sign" for kind, rule in BARRED_NODES
             if isinstance(node, kind) and hasattr(node, "lineno")]
    if isinstance(node, (ast.BinOp, ast.AugAssign)) and isinstance(node.op, (ast.Div, ast.MatMult)):
        found.append(f"L7 {node.lineno} no / and no @")
    if isinstance(node, FUNCTIONS) and node.end_lineno - node.lineno + 1 > 40:
        found.append(f"L10 {node.lineno} a function of more than 40 lines")
    if isinstance(node, FUNCTIONS):
        for part in node.decorator_list:
            text = ast.unparse(part)
            if text not in ("property", "classmethod", "staticmethod") and not text.endswith(".setter"):
                found.append(f"L4 {node.lineno} a decorator")
    if isinstance(node, ast.ClassDef) and (node.decorator_list or node.keywords):
        found.append(f"L5 {node.lineno} a decorator or a keyword of a class")
    if isinstance(node, ast.Constant) and isinstance(node.value, (float, complex)):
        found.append(f"L7 {node.lineno} a float")
    if isinstance(node, ast.Constant) and node.value is ...:
        found.append(f"L7 {node.lineno} three dots")
    if isinstance(node, ast.Constant) and isinstance(node.value, int) and abs(node.value) >= 10 ** 900:
        found.append(f"L27 {node.lineno} a number of more than 900 digits")
    if isinstance(node, ast.Compare):
        for sign, right in zip(node.ops, node.comparators):
            if isinstance(sign, (ast.Is, ast.IsNot)) and not (
                    isinstance(right, ast.Constant) and right.value in (None, True, False)):
                found.append(f"L20 {node.lineno} is with something else")
    if isinstance(node, ast.ExceptHandler):
        found += handler_faults(node)
    if isinstance(node, ast.Raise) and node.exc is not None:
        if not (isinstance(node.exc, ast.Call) and isinstance(node.exc.func, ast.Name)):
            found.append(f"L19 {node.lineno} an error that is not created on the spot")
    return found


def handler_faults(node):
    if node.type is None:
        return [f"L6 {node.lineno} an except of anything"]
    kinds = node.type.elts if isinstance(node.type, ast.Tuple) else [node.type]
    names = [ast.unparse(kind) for kind in kinds]
    wrong = [name for name in names if name in ALL_BUILTINS and name not in CAUGHT_FREELY]
    return [f"L19 {node.lineno} {name} is not caught" for name in wrong]


def names_of(node):
    """The names that a node binds or uses: pairs of a name and whether it is an attribute."""
    if isinstance(node, ast.Name):
        return [(node.id, False)]
    if isinstance(node, ast.Attribute):
        return [(node.attr, True)]
    if isinstance(node, FUNCTIONS + (ast.ClassDef,)):
        return [(node.name, False)]
    if isinstance(node, (ast.arg, ast.keyword)):
        return [(node.arg, False)] if node.arg else []
    if isinstance(node, ast.ExceptHandler):
        return [(node.name, False)] if node.name else []
    return []


def name_faults(node):
    found = []
    at = getattr(node, "lineno", 0)
    for name, is_attribute in names_of(node):
        if not name.isascii():
            found.append(f"L12 {at} {name} is not ASCII")
        if name.startswith("__") and name not in DOUBLE:
            found.append(f"L8 {at} {name} begins with two underscores")
        if name.startswith(BAD_STARTS) and not is_attribute:
            found.append(f"L12 {at} {name} has a barred beginning")
        if name in NEVER_NAMED and not is_attribute or name in ("register", "mro", "elements", "law"):
            found.append(f"L17 {at} {name} is not used")
        if name == "_" and isinstance(node, ast.Name) and isinstance(node.ctx, ast.Load):
            found.append(f"L12 {at} _ is read")
        if isinstance(node, ast.Name) and isinstance(node.ctx, ast.Load) and name in ALL_BUILTINS:
            if name not in BUILTINS:
                found.append(f"L8 {at} the builtin {name}")
        elif not is_attribute and not isinstance(node, (ast.keyword, ast.Name)) and name in ALL_BUILTINS:
            found.append(f"L15 {at} {name} has the name of a builtin")
        elif isinstance(node, ast.Name) and not isinstance(node.ctx, ast.Load) and name in ALL_BUILTINS:
            found.append(f"L15 {at} {name} has the name of a builtin")
    return found


def call_faults(node, own):
    if not isinstance(node, ast.Call):
        return []
    found = []
    if isinstance(node.func, ast.Attribute):
        name = node.func.attr
        if name not in METHODS and name not in own and name not in DOUBLE:
            found.append(f"L25 {node.lineno} the method {name}")
        if name in METHODS and name not in own and node.keywords:
            found.append(f"L25 {node.lineno} keywords of the method {name}")
    if isinstance(node.func, ast.Name) and node.func.id in TAKES_A_LIST:
        if any(isinstance(part, ast.GeneratorExp) for part in node.args):
            found.append(f"L7 {node.lineno} {node.func.id} of a generator expression")
    if isinstance(node.func, ast.Constant):
        found.append(f"L7 {node.lineno} a literal is called")
    return found


def binding_faults(tree):
    """L15: one binding for each name at module level, and none of them again inside."""
    found = []
    imported = [part.name for node in tree.body if isinstance(node, ast.ImportFrom) for part in node.names]
    top = imported + bound_at_top(tree)
    found += [f"L15 1 {name} is bound twice" for name in sorted(set(top)) if top.count(name) > 1]
    guarded = set(imported) | {node.name for node in tree.body if isinstance(node, ast.ClassDef)}
    for node in ast.walk(tree):
        stored = isinstance(node, ast.Name) and not isinstance(node.ctx, ast.Load) and node.id in guarded
        if stored or isinstance(node, ast.arg) and node.arg in guarded:
            found.append(f"L15 {node.lineno} a local name that is an import's or a class's")
    return found


def docstrings(tree):
    found = set()
    for node in ast.walk(tree):
        if isinstance(node, FUNCTIONS + (ast.ClassDef, ast.Module)) and node.body:
            first = node.body[0]
            if isinstance(first, ast.Expr) and isinstance(first.value, ast.Constant):
                found.add(id(first.value))
    return found


def word_faults(text, tree):
    """L17 and L27: words that do not occur, and what strings do not contain."""
    found = []
    told = docstrings(tree)
    for node in ast.walk(tree):
        if not isinstance(node, ast.Constant) or not isinstance(node.value, str):
            continue
        if "%" in node.value:
            found.append(f"L27 {node.lineno} a sign of percent in a string")
        if any(letter != "\n" and not " " <= letter <= "~" for letter in node.value):
            found.append(f"L27 {node.lineno} a character that needs a barred escape")
        if id(node) not in told and NEVER_SPELT.search(node.value):
            found.append(f"L17 {node.lineno} a barred word")
        if node.value.endswith(("._", ".__")):
            found.append(f"L27 {node.lineno} a string that ends in ._")
    for node in ast.walk(tree):
        for name, _ in names_of(node):
            if NEVER_SPELT.search(name):
                found.append(f"L17 {getattr(node, 'lineno', 0)} a barred word")
    return found


def small_range_names(tree):
    """Names of variables over `range` of literals from 0 to 64 alone."""
    over = {}
    for node in ast.walk(tree):
        if isinstance(node, (ast.For, ast.comprehension)) and isinstance(node.target, ast.Name):
            call = node.iter
            fits = isinstance(call, ast.Call) and isinstance(call.func, ast.Name) and call.func.id == "range" and all(
                isinstance(part, ast.Constant) and 0 <= part.value <= 64 for part in call.args)
            over[node.target.id] = over.get(node.target.id, True) and fits
        elif isinstance(node, ast.Assign):
            for target in node.targets:
                over.update({part.id: False for part in ast.walk(target) if isinstance(part, ast.Name)})
    return {name for name, fits in over.items() if fits}


def power_faults(tree):
    found = []
    for scope in [node for node in ast.walk(tree) if isinstance(node, FUNCTIONS + (ast.Module,))]:
        small = small_range_names(scope)
        for node in ast.walk(scope):
            if not isinstance(node, ast.BinOp) or not isinstance(node.op, ast.Pow):
                continue
            right = node.right
            literal = isinstance(right, ast.Constant) and isinstance(right.value, int) and 0 <= right.value <= 64
            inner = isinstance(right, ast.Name) and (right.id in small or isinstance(scope, ast.Module))
            if not literal and not inner:
                found.append(f"L27 {node.lineno} an exponent that is no small literal")
    return found


def set_faults(tree):
    """L24: a set stands in `sorted` or `len` without keywords, or behind `in`; no others are written at all."""
    found = []
    let = set()
    for node in ast.walk(tree):
        if isinstance(node, ast.Call) and isinstance(node.func, ast.Name) and node.func.id in ("sorted", "len"):
            if not node.keywords:
                let.update(id(part) for part in node.args)
        if isinstance(node, ast.Compare):
            let.update(id(part) for part in node.comparators)
    for node in ast.walk(tree):
        is_call = isinstance(node, ast.Call) and isinstance(node.func, ast.Name) and node.func.id in ("set", "frozenset")
        if (is_call or isinstance(node, (ast.Set, ast.SetComp))) and id(node) not in let:
            found.append(f"L24 {node.lineno} a set that is kept or iterated")
    return found


def owner(node):
    """The name that an expression such as `box.rows[0]` begins with, or `None`."""
    while isinstance(node, (ast.Attribute, ast.Subscript)):
        node = node.value
    return node.id if isinstance(node, ast.Name) else None


def choices(node):
    """The expressions one of which is the value of a choice, such as `a if c else b`."""
    if isinstance(node, ast.IfExp):
        return choices(node.body) + choices(node.orelse)
    if isinstance(node, ast.BoolOp):
        return [part for value in node.values for part in choices(value)]
    return [node]


def shared_names(scope):
    """A dict from names of a function to sets of all names that may mean the same value, by plain assignments."""
    groups = {}
    for node in ast.walk(scope):
        if not isinstance(node, ast.Assign):
            continue
        for target in node.targets:
            paired = isinstance(target, ast.Tuple) and isinstance(node.value, ast.Tuple)
            for left, right in zip(target.elts, node.value.elts) if paired else [(target, node.value)]:
                for part in choices(right):
                    if isinstance(left, ast.Name) and isinstance(part, ast.Name):
                        both = groups.get(left.id, {left.id}) | groups.get(part.id, {part.id})
                        groups.update({name: both for name in both})
    return groups


def walked_names(node):
    """The names of what a loop over an expression walks, by a view, `enumerate`, `zip` or `reversed` too."""
    if isinstance(node, ast.Call) and isinstance(node.func, ast.Attribute):
        return walked_names(node.func.value) if node.func.attr in ("items", "keys", "values") else []
    if isinstance(node, ast.Call):
        over = isinstance(node.func, ast.Name) and node.func.id in ("enumerate", "zip", "reversed")
        return [name for part in node.args for name in walked_names(part)] if over else []
    return [owner(part) for part in choices(node) if owner(part)]


def changed_name(node):
    """The name of what a node changes in place, or `None`."""
    if isinstance(node, ast.Call) and isinstance(node.func, ast.Attribute) and node.func.attr in CHANGING:
        return owner(node.func.value)
    if isinstance(node, ast.AugAssign):
        return owner(node.target)
    return owner(node) if isinstance(node, ast.Subscript) and not isinstance(node.ctx, ast.Load) else None


def walk_faults(tree):
    """L23: what a loop walks is not changed in it, by none of the names that it has in the function."""
    found = []
    for scope in [node for node in ast.walk(tree) if isinstance(node, FUNCTIONS)]:
        groups = shared_names(scope)
        for loop in [node for node in ast.walk(scope) if isinstance(node, ast.For)]:
            walked = [name for told in walked_names(loop.iter) for name in groups.get(told, [told])]
            for node in [part for row in loop.body for part in ast.walk(row)]:
                if changed_name(node) in walked:
                    found.append(f"L23 {node.lineno} what the loop of line {loop.lineno} walks is changed")
    return found
