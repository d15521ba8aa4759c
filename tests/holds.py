"""What L22 to L24 say of iterators, views and sets: they are used where they are made, or kept in a few ways only."""

import ast

MAKING = ("range", "zip", "enumerate", "reversed")
VIEWS = ("items", "keys", "values")
TAKING = ("list", "tuple", "dict", "sorted", "sum", "any", "all", "enumerate", "zip", "min", "max")
KEYWORDS = {"sorted": ("key", "reverse"), "min": ("key", "default"), "max": ("key", "default"), "sum": ("start",),
            "enumerate": ("start",), "zip": ("strict",)}
PLAIN = TAKING + MAKING + ("len", "abs", "int", "str", "bool", "set", "isinstance", "ord", "repr", "divmod")


def parents_in(tree):
    """A dict from each node to the node around it."""
    return {part: node for node in ast.walk(tree) for part in ast.iter_child_nodes(node)}


def called(node):
    """The name of the builtin or function that a call names, "" for anything else."""
    return node.func.id if isinstance(node, ast.Call) and isinstance(node.func, ast.Name) else ""


def is_iterator(node):
    """Whether a node makes an iterator, a range or a view."""
    if called(node) in MAKING:
        return True
    return isinstance(node, ast.Call) and isinstance(node.func, ast.Attribute) and node.func.attr in VIEWS


def used_at_once(node, around):
    """Whether what is_iterator tells stands where it is iterated at once, or a range where it may be kept."""
    if isinstance(around, (ast.For, ast.comprehension)):
        return around.iter is node
    if called(around) == "reversed" or called(around) == "len":
        return called(node) == "range" or called(around) == "len" and not called(node)
    if called(around) in TAKING:
        return called(around) == "zip" or around.args[0] is node and len(around.args) == 1
    if isinstance(around, ast.Call) and isinstance(around.func, ast.Attribute) and around.func.attr == "join":
        return True
    if isinstance(around, ast.Compare):
        return isinstance(around.ops[0], (ast.In, ast.NotIn))
    return called(node) == "range" and isinstance(around, ast.Assign) and isinstance(around.targets[0], ast.Name)


def is_set(node):
    """Whether a node makes a set."""
    return isinstance(node, (ast.Set, ast.SetComp)) or called(node) == "set"


def set_is_used(node, around):
    """Whether a set that is written out stands where it may stand, or is stored."""
    if isinstance(around, ast.BinOp):
        return True
    if isinstance(around, ast.Compare):
        return node in around.comparators
    if called(around) in ("sorted", "len"):
        return around.args[0] is node
    return isinstance(around, ast.Assign) and len(around.targets) == 1 and isinstance(around.targets[0], ast.Name)


def stored_set_is_used(node, parents):
    """Whether the name of a stored set stands in one of the few ways of L24."""
    around = parents[node]
    if isinstance(around, ast.Attribute):
        return around.attr in ("add", "discard") and isinstance(parents[parents[around]], ast.Expr)
    if called(around) in ("len", "sorted"):
        return True
    if isinstance(around, ast.Compare):
        return isinstance(around.ops[0], (ast.Eq, ast.NotEq)) or node in around.comparators
    return isinstance(around, (ast.If, ast.While, ast.Assert)) and around.test is node


def faults_in_sets(name, function, parents):
    """What is wrong with the sets that a function stores."""
    faults = []
    stored = [node for node in ast.walk(function) if isinstance(node, ast.Assign) and is_set(node.value)]
    for told in {node.targets[0].id for node in stored if isinstance(node.targets[0], ast.Name)}:
        uses = [node for node in ast.walk(function) if isinstance(node, ast.Name) and node.id == told]
        if len([node for node in uses if isinstance(node.ctx, ast.Store)]) != 1:
            faults.append(f"{name}:{function.lineno} L24 the set {told} is assigned twice")
        faults += [f"{name}:{node.lineno} L24 the set {told} is used otherwise" for node in uses
                   if isinstance(node.ctx, ast.Load) and not stored_set_is_used(node, parents)]
    return faults


def faults_in_calls(name, node):
    """What is wrong with the keywords of a call of a builtin."""
    told = called(node)
    if told not in PLAIN:
        return []
    return [f"{name}:{node.lineno} L22 keyword {entry.arg} of {told}" for entry in node.keywords
            if entry.arg not in KEYWORDS.get(told, ())]


def faults_in_holds(trees):
    """The list of what is wrong with iterators, views, sets and keywords, as texts "file:line what"."""
    faults = []
    for name, tree in trees.items():
        parents = parents_in(tree)
        for node in ast.walk(tree):
            if is_iterator(node) and not used_at_once(node, parents[node]):
                faults.append(f"{name}:{node.lineno} L23 {ast.unparse(node)} is not iterated at once")
            if is_set(node) and not set_is_used(node, parents[node]):
                faults.append(f"{name}:{node.lineno} L24 {ast.unparse(node)} stands where no set may stand")
            if isinstance(node, ast.FunctionDef):
                faults += faults_in_sets(name, node, parents)
            if isinstance(node, ast.Name) and node.id == "_" and isinstance(node.ctx, ast.Load):
                faults.append(f"{name}:{node.lineno} L12 _ is read")
            faults += faults_in_calls(name, node)
    return faults
