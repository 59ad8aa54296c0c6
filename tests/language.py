"""Finds what in a package's file is outside the part of Python that the program keeps to.

Not all of the rules can be seen by walking a file: those that can are here, each fault
told as (rule, line). What the package does without is in language_spare.
"""

import ast
import builtins
import re

from tests.language_spare import recursion_faults, spare_faults

PACKAGE = "squarehouse"
ALLOWED_BUILTINS = set(
    "len range enumerate zip min max sum abs sorted reversed int str bool list tuple dict set frozenset isinstance "
    "ord repr any all divmod Exception ValueError TypeError KeyError IndexError LookupError ZeroDivisionError "
    "ArithmeticError OverflowError RuntimeError NotImplementedError AttributeError StopIteration".split()
)
OWN_METHODS_WITH_UNDERSCORES = ("__init__", "__eq__", "__repr__", "__str__", "__len__")
FORBIDDEN_NAMES = set(
    "register mro elements open input version_info with_traceback add_note attrgetter breakpoint builtins compile "
    "copyright credits delattr dir eval exec exit gc getattr globals hasattr help id importlib license locals "
    "methodcaller os quit setattr super type vars sys".split()
)
FORBIDDEN_ATTRIBUTES = set("register mro elements open input version_info with_traceback add_note format_map".split())
FORBIDDEN_WORDS = set(
    "type typing typing_extensions enum Enum IntEnum StrEnum Flag IntFlag Generic Protocol ABC ABCMeta namedtuple "
    "NamedTuple TypedDict TYPE_CHECKING abstractmethod".split()
)
FORBIDDEN_PIECES = ("dataclass", "overload", "contextmanager")
VALUE_METHODS = set(
    "append clear copy count endswith extend find get index insert isalnum isalpha isdigit islower isspace isupper "
    "items join keys ljust lower lstrip partition pop remove replace reverse rfind rjust rpartition rsplit rstrip "
    "setdefault split splitlines startswith strip update upper values zfill bit_length".split()
)
FORBIDDEN_FILES = {"test", "tests", "testing", "site", "conftest", "sitecustomize", "usercustomize"}
CHANGING_METHODS = ("append", "clear", "extend", "insert", "pop", "remove", "reverse", "setdefault", "update")
WALKED_AT_ONCE = ("zip", "enumerate", "reversed", "range")
WALKERS = ("list", "tuple", "dict", "sorted", "sum", "any", "all", "enumerate", "zip", "min", "max")
STATEMENTS = (
    ast.Assign, ast.AugAssign, ast.If, ast.While, ast.For, ast.Return, ast.Break, ast.Continue, ast.Pass, ast.Raise,
    ast.Try, ast.Expr, ast.FunctionDef, ast.ClassDef, ast.ImportFrom,
)
EXPRESSIONS = (
    ast.BoolOp, ast.BinOp, ast.UnaryOp, ast.Lambda, ast.IfExp, ast.Dict, ast.ListComp, ast.Compare, ast.Call,
    ast.JoinedStr, ast.FormattedValue, ast.Constant, ast.Attribute, ast.Subscript, ast.Name, ast.List, ast.Tuple,
    ast.Slice,
)


def file_name_faults(name):
    stem = name[:-3] if name.endswith(".py") else None
    if stem is None or not re.fullmatch(r"[a-z0-9_]+", stem):
        return [("L1", 0)]
    if stem in FORBIDDEN_FILES or stem.startswith("test_") or stem in FORBIDDEN_WORDS or stem in vars(builtins):
        return [("L14", 0)]
    return []


def text_faults(text):
    faults = []
    for number, line in enumerate(text.split("\n"), start=1):
        if len(line) > 120 or "\t" in line:
            faults.append(("L10", number))
        if any(not " " <= sign <= "~" for sign in line):
            faults.append(("L14", number))
        words = set(re.findall(r"\w+", line))
        if words & FORBIDDEN_WORDS or any(piece in line for piece in FORBIDDEN_PIECES):
            faults.append(("L17", number))
    if text.count("\n") > 400:
        faults.append(("L10", 400))
    return faults


def is_docstring(node):
    return isinstance(node, ast.Expr) and isinstance(node.value, ast.Constant) and isinstance(node.value.value, str)


def is_plain(node, functions):
    if isinstance(node, ast.Constant):
        return node.value is None or isinstance(node.value, (int, str))
    if isinstance(node, ast.UnaryOp) and isinstance(node.op, ast.USub):
        return isinstance(node.operand, ast.Constant)
    if isinstance(node, ast.Name):
        return node.id in functions
    if isinstance(node, (ast.List, ast.Tuple)):
        return all(is_plain(one, functions) for one in node.elts)
    if isinstance(node, ast.Dict):
        return all(is_plain(one, functions) for one in node.keys + node.values)
    return False


def holds_list_or_dict(node):
    return any(isinstance(one, (ast.List, ast.Dict)) for one in ast.walk(node) if one is not node)


def top_faults(tree):
    faults = []
    bound = []
    functions = []
    for at, node in enumerate(tree.body):
        if isinstance(node, ast.ImportFrom):
            bound += [alias.name for alias in node.names]
            if any(not isinstance(one, ast.ImportFrom) and not is_docstring(one) for one in tree.body[:at]):
                faults.append(("L2", node.lineno))
        elif isinstance(node, (ast.FunctionDef, ast.ClassDef)):
            bound.append(node.name)
            if isinstance(node, ast.FunctionDef):
                functions.append(node.name)
        elif isinstance(node, ast.Assign) and isinstance(node.targets[0], ast.Name):
            bound.append(node.targets[0].id)
            if not is_plain(node.value, functions):
                faults.append(("L3", node.lineno))
            if isinstance(node.value, (ast.List, ast.Dict)) and holds_list_or_dict(node.value):
                faults.append(("L15", node.lineno))
        elif not (at == 0 and is_docstring(node)):
            faults.append(("L3", node.lineno))
    if len(set(bound)) != len(bound):
        faults.append(("L15", 1))
    return faults


def import_faults(node, modules):
    if node.level or node.module is None or any(alias.name == "*" or alias.asname for alias in node.names):
        return [("L2", node.lineno)]
    parts = node.module.split(".")
    if parts[0] != PACKAGE or len(parts) != 2 or parts[1] not in modules:
        return [("L2", node.lineno)]
    return [("L16", node.lineno) for alias in node.names if alias.name not in modules[parts[1]]]


def function_faults(node):
    faults = []
    given = node.args
    if given.vararg or given.kwarg or given.kwonlyargs or given.posonlyargs or node.decorator_list:
        faults.append(("L4", node.lineno))
    if node.end_lineno - node.lineno + 1 > 40:
        faults.append(("L10", node.lineno))
    if node.returns or any(one.annotation for one in given.args):
        faults.append(("L21", node.lineno))
    return faults


def class_faults(node):
    faults = []
    if len(node.bases) > 1 or node.keywords or node.decorator_list:
        faults.append(("L5", node.lineno))
    names = []
    for one in node.body:
        if isinstance(one, ast.FunctionDef):
            names.append(one.name)
        elif not is_docstring(one):
            faults.append(("L5", one.lineno))
    if len(set(names)) != len(names):
        faults.append(("L18", node.lineno))
    return faults


def statement_faults(node):
    if isinstance(node, ast.Import):
        return [("L2", node.lineno)]
    if not isinstance(node, STATEMENTS):
        return [("L6", node.lineno)]
    if isinstance(node, ast.Assign) and len(node.targets) != 1:
        return [("L6", node.lineno)]
    if isinstance(node, (ast.For, ast.While)) and node.orelse:
        return [("L6", node.lineno)]
    if isinstance(node, ast.Try) and node.finalbody:
        return [("L6", node.lineno)]
    if isinstance(node, ast.Expr) and not isinstance(node.value, ast.Call) and not is_docstring(node):
        return [("L6", node.lineno)]
    return []


def expression_faults(node):
    if not isinstance(node, EXPRESSIONS):
        return [("L7", node.lineno)]
    if isinstance(node, ast.Constant) and isinstance(node.value, (float, complex, bytes)):
        return [("L7", node.lineno)]
    if isinstance(node, ast.Constant) and isinstance(node.value, str) and "%" in node.value:
        return [("L27", node.lineno)]
    if isinstance(node, ast.BinOp) and isinstance(node.op, (ast.Div, ast.MatMult)):
        return [("L7", node.lineno)]
    if isinstance(node, ast.BinOp) and isinstance(node.op, ast.Pow):
        if not (isinstance(node.right, ast.Constant) and 0 <= node.right.value <= 64):
            return [("L27", node.lineno)]
    if isinstance(node, ast.ListComp):
        if len(node.generators) != 1 or len(node.generators[0].ifs) > 1:
            return [("L7", node.lineno)]
    if isinstance(node, ast.Compare) and any(isinstance(op, (ast.Is, ast.IsNot)) for op in node.ops):
        if not any(isinstance(one, ast.Constant) for one in [node.left] + node.comparators):
            return [("L20", node.lineno)]
    return []


def bound_names(tree):
    found = []
    for node in ast.walk(tree):
        if isinstance(node, ast.arg):
            found.append((node.arg, node.lineno))
        elif isinstance(node, ast.Name) and isinstance(node.ctx, ast.Store):
            found.append((node.id, node.lineno))
        elif isinstance(node, (ast.FunctionDef, ast.ClassDef)):
            found.append((node.name, node.lineno))
        elif isinstance(node, ast.Attribute) and isinstance(node.ctx, ast.Store):
            found.append((node.attr, node.lineno))
    return found


def name_faults(tree):
    faults = []
    methods = methods_in(tree)
    imports = {alias.name for node in tree.body if isinstance(node, ast.ImportFrom) for alias in node.names}
    classes = {node.name for node in tree.body if isinstance(node, ast.ClassDef)}
    for name, line in bound_names(tree):
        if name in methods and name in OWN_METHODS_WITH_UNDERSCORES:
            continue
        if not re.fullmatch(r"[A-Za-z][A-Za-z0-9_]*", name):
            faults.append(("L12", line))
        if name in FORBIDDEN_NAMES:
            faults.append(("L17", line))
        if name in vars(builtins):
            faults.append(("L15", line))
    for node in ast.walk(tree):
        local = isinstance(node, ast.arg) and node.arg
        local = local or (isinstance(node, ast.Name) and isinstance(node.ctx, ast.Store) and node.id)
        if local and local in imports | classes:
            faults.append(("L15", node.lineno))
        if isinstance(node, ast.Name) and isinstance(node.ctx, ast.Load):
            if node.id in vars(builtins) and node.id not in ALLOWED_BUILTINS:
                faults.append(("L8", node.lineno))
    return faults


def method_faults(tree, own_methods):
    faults = []
    called = {id(node.func) for node in ast.walk(tree) if isinstance(node, ast.Call)}
    for node in ast.walk(tree):
        if not isinstance(node, ast.Attribute):
            continue
        if node.attr in FORBIDDEN_ATTRIBUTES or node.attr == "format":
            faults.append(("L17", node.lineno))
        if id(node) in called and node.attr not in VALUE_METHODS and node.attr not in own_methods:
            faults.append(("L25", node.lineno))
        if id(node) not in called and node.attr in VALUE_METHODS | own_methods:
            faults.append(("L25", node.lineno))
    return faults


def walk_faults(tree):
    faults = []
    at_once = set()
    for node in ast.walk(tree):
        if isinstance(node, (ast.For, ast.comprehension)):
            at_once.add(id(node.iter))
        if isinstance(node, ast.Call) and isinstance(node.func, ast.Name) and node.func.id in WALKERS:
            at_once |= {id(one) for one in node.args}
        if isinstance(node, ast.For) and isinstance(node.iter, ast.Name):
            faults += [("L23", one.lineno) for one in ast.walk(node) if changes(one, node.iter.id)]
    for node in ast.walk(tree):
        if isinstance(node, ast.Call) and isinstance(node.func, ast.Name) and node.func.id in WALKED_AT_ONCE:
            if id(node) not in at_once:
                faults.append(("L23", node.lineno))
    return faults


def changes(node, name):
    if isinstance(node, ast.Subscript) and isinstance(node.ctx, ast.Store):
        return isinstance(node.value, ast.Name) and node.value.id == name
    if isinstance(node, ast.Call) and isinstance(node.func, ast.Attribute) and node.func.attr in CHANGING_METHODS:
        return isinstance(node.func.value, ast.Name) and node.func.value.id == name
    return False


def table_faults(tree, tables):
    """A file's list or dict is read by an index, `in`, a walk, len or get alone."""
    faults = []
    fine = set()
    for node in ast.walk(tree):
        if isinstance(node, ast.Subscript) and isinstance(node.ctx, ast.Load):
            fine.add(id(node.value))
        if isinstance(node, ast.Compare):
            fine |= {id(one) for one in [node.left] + node.comparators}
        if isinstance(node, (ast.For, ast.comprehension)):
            fine.add(id(node.iter))
        if isinstance(node, ast.Call) and isinstance(node.func, ast.Name) and node.func.id in ("len", "list", "dict"):
            fine |= {id(one) for one in node.args}
        if isinstance(node, ast.Attribute) and node.attr in ("get", "items", "keys", "values", "index", "count"):
            fine.add(id(node.value))
    for node in ast.walk(tree):
        if isinstance(node, ast.Name) and isinstance(node.ctx, ast.Load) and node.id in tables:
            if id(node) not in fine:
                faults.append(("L15", node.lineno))
    return faults


def defined_in(tree):
    names = [node.name for node in tree.body if isinstance(node, (ast.FunctionDef, ast.ClassDef))]
    return set(names + [node.targets[0].id for node in tree.body if isinstance(node, ast.Assign)])


def tables_in(tree):
    assigned = [node for node in tree.body if isinstance(node, ast.Assign)]
    return {node.targets[0].id for node in assigned if isinstance(node.value, (ast.List, ast.Dict))}


def methods_in(tree):
    classes = [node for node in tree.body if isinstance(node, ast.ClassDef)]
    return {one.name for node in classes for one in node.body if isinstance(one, ast.FunctionDef)}


def values_in(tree):
    return {node.attr for node in ast.walk(tree) if isinstance(node, ast.Attribute) and isinstance(node.ctx, ast.Store)}


def import_cycle(trees):
    draws = {}
    for name, tree in trees.items():
        drawn = {node.module.split(".")[-1] for node in tree.body if isinstance(node, ast.ImportFrom)}
        draws[name] = drawn & set(trees)
    ready = set()
    while True:
        more = {name for name in draws if name not in ready and draws[name] <= ready}
        if not more:
            return set(draws) - ready
        ready |= more


def package_faults(texts):
    """texts: each file's name and what it holds. Gives (file, rule, line) for each fault."""
    faults = [(name, rule, line) for name in texts for rule, line in file_name_faults(name) + text_faults(texts[name])]
    trees = {name[:-3]: ast.parse(text) for name, text in texts.items()}
    modules = {name: defined_in(tree) for name, tree in trees.items()}
    tables = set().union(*[tables_in(tree) for tree in trees.values()])
    methods = set().union(*[methods_in(tree) for tree in trees.values()])
    values = set().union(*[values_in(tree) for tree in trees.values()])
    faults += [("", "L18", 0)] * len(methods & values)
    faults += [(name, "L16", 0) for name in import_cycle(trees)]
    faults += recursion_faults(trees)
    classes = {node.name for tree in trees.values() for node in tree.body if isinstance(node, ast.ClassDef)}
    if "__init__" not in trees:
        faults.append(("", "L14", 0))
    for name, tree in trees.items():
        found = top_faults(tree) + name_faults(tree) + method_faults(tree, methods) + walk_faults(tree)
        found += table_faults(tree, tables) + spare_faults(texts[name + ".py"], tree, classes)
        for node in ast.walk(tree):
            if isinstance(node, ast.ImportFrom):
                found += import_faults(node, modules)
            if isinstance(node, ast.FunctionDef):
                found += function_faults(node)
            if isinstance(node, ast.ClassDef):
                found += class_faults(node)
            if isinstance(node, ast.stmt):
                found += statement_faults(node)
            if isinstance(node, ast.expr):
                found += expression_faults(node)
        faults += [(name, rule, line) for rule, line in found]
    return sorted(set(faults))
