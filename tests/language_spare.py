"""Rules that the package keeps by doing without: what it doesn't need is a fault here,
also where the rule would allow some of it. Each fault is told as (rule, line).
"""

import ast

NOT_ASKED = ("print", "open", "input", "sys")
SETS = ("set", "frozenset")
CALLED_ALONE = ("len", "range", "enumerate", "zip", "min", "max", "sum", "abs", "sorted", "reversed", "int", "str",
                "bool", "list", "tuple", "dict", "repr", "ord", "any", "all", "divmod")
METHODS_LIKE_PYTHONS = set(
    "add discard append clear copy count endswith extend find get index insert isalnum isalpha isdigit islower isspace "
    "isupper join ljust lower lstrip partition pop remove replace reverse rfind rjust rpartition rsplit rstrip "
    "setdefault split splitlines startswith strip update upper zfill bit_length".split()
)
VALUES_LIKE_PYTHONS = set("count index title find get join lower upper split strip copy add".split())
NAMES_OF_PYTHONS_VALUES = set().union(*[dir(kind) for kind in (str, int, list, tuple, dict, set, bytes)])


def called_nodes(tree):
    return {id(node.func) for node in ast.walk(tree) if isinstance(node, ast.Call)}


def inner_def_faults(tree):
    """No def within a def, no lambda; parameters have no values of their own."""
    faults = []
    for node in ast.walk(tree):
        if isinstance(node, ast.Lambda):
            faults.append(("L13", node.lineno))
        if isinstance(node, ast.FunctionDef):
            within = [one for one in ast.walk(node) if isinstance(one, ast.FunctionDef) and one is not node]
            faults += [("L4", one.lineno) for one in within]
            faults += [("L4", node.lineno)] * len(node.args.defaults)
    return faults


def error_faults(tree):
    return [("L19", node.lineno) for node in ast.walk(tree) if isinstance(node, (ast.Try, ast.Raise))]


def name_use_faults(tree):
    faults = []
    called = called_nodes(tree)
    for node in ast.walk(tree):
        if isinstance(node, ast.Name):
            if node.id in NOT_ASKED:
                faults.append(("L9", node.lineno))
            if node.id in SETS:
                faults += [("L24", node.lineno), ("L11", node.lineno)]
            if node.id == "chr":
                faults.append(("L27", node.lineno))
            if node.id in CALLED_ALONE and id(node) not in called:
                faults.append(("L22", node.lineno))
            if node.id.startswith("__"):
                faults.append(("L8", node.lineno))
        if isinstance(node, ast.Set):
            faults += [("L13", node.lineno), ("L24", node.lineno)]
        if isinstance(node, ast.Call) and node.keywords:
            faults.append(("L22", node.lineno))
    return faults


def class_use_faults(tree, classes):
    called = called_nodes(tree)
    bases = {id(base) for node in ast.walk(tree) if isinstance(node, ast.ClassDef) for base in node.bases}
    return [("L18", node.lineno) for node in ast.walk(tree)
            if isinstance(node, ast.Name) and node.id in classes and id(node) not in called | bases]


def attribute_faults(tree):
    faults = []
    for node in ast.walk(tree):
        if isinstance(node, ast.Attribute) and isinstance(node.ctx, ast.Store):
            if node.attr in NAMES_OF_PYTHONS_VALUES - VALUES_LIKE_PYTHONS or node.attr in ("sort", "args", "format"):
                faults.append(("L26", node.lineno))
            if not (isinstance(node.value, ast.Name) and node.value.id.islower()):
                faults.append(("L18", node.lineno))
        if isinstance(node, ast.Attribute) and node.attr.startswith("_"):
            faults.append(("L12", node.lineno))
    return faults


def own_method_faults(tree):
    faults = []
    for node in tree.body:
        for one in node.body if isinstance(node, ast.ClassDef) else []:
            if not isinstance(one, ast.FunctionDef):
                continue
            if one.name == "__init__":
                returns = [part for part in ast.walk(one) if isinstance(part, ast.Return)]
                faults += [("L28", part.lineno) for part in returns if part.value]
            elif one.name.startswith("__"):
                faults.append(("L28", one.lineno))
            elif one.name in NAMES_OF_PYTHONS_VALUES - METHODS_LIKE_PYTHONS:
                faults.append(("L26", one.lineno))
    return faults


def written_faults(text):
    """No sign is written by another, and no number is longer than a row may be."""
    return [("L27", at) for at, line in enumerate(text.split("\n"), start=1) if "\\" in line]


def calls_of_functions(trees):
    """For each function, as (file, name), which of the package's functions it calls by name."""
    found = {}
    for file, tree in trees.items():
        known = {node.name: (file, node.name) for node in tree.body if isinstance(node, ast.FunctionDef)}
        for node in tree.body:
            if isinstance(node, ast.ImportFrom) and node.module:
                known.update({alias.name: (node.module.split(".")[-1], alias.name) for alias in node.names})
        for node in tree.body:
            if isinstance(node, ast.FunctionDef):
                calls = [one.func for one in ast.walk(node) if isinstance(one, ast.Call)]
                names = [one.id for one in calls if isinstance(one, ast.Name)]
                found[(file, node.name)] = {known[name] for name in names if name in known}
    return found


def recursion_faults(trees):
    """No function comes to call itself: so nothing is nested deeper than the package's functions are many."""
    calls = calls_of_functions(trees)
    ready = set()
    while True:
        more = {one for one in calls if one not in ready and calls[one] & set(calls) <= ready}
        if not more:
            return [(file, "L11", 0) for file, name in set(calls) - ready]
        ready |= more


def spare_faults(text, tree, classes):
    return (inner_def_faults(tree) + error_faults(tree) + name_use_faults(tree) + class_use_faults(tree, classes)
            + attribute_faults(tree) + own_method_faults(tree) + written_faults(text))
