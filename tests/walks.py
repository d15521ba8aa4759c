"""What L23 says of the things that a loop walks: they are not changed in it, under another name of the function either.
"""

import ast

from tests.operators import CHANGING

COPYING = ("enumerate", "zip", "reversed", "iter", "map")
VIEWS = ("items", "keys", "values")


def is_path(node):
    """Whether a node is a name, or an attribute of a name or of such an attribute."""
    return isinstance(node, ast.Name) or isinstance(node, ast.Attribute) and is_path(node.value)


def named_in(node):
    """The texts of the names and attributes whose things a value may be, without a copy being made."""
    if is_path(node):
        return [ast.unparse(node)]
    if isinstance(node, ast.IfExp):
        return named_in(node.body) + named_in(node.orelse)
    if isinstance(node, ast.BoolOp):
        return [told for value in node.values for told in named_in(value)]
    if isinstance(node, ast.NamedExpr):
        return named_in(node.target) + named_in(node.value)
    return []


def walked_in(node):
    """The texts of what a loop over a value walks."""
    if isinstance(node, ast.Call) and isinstance(node.func, ast.Name) and node.func.id in COPYING:
        return [told for value in node.args for told in walked_in(value)]
    if isinstance(node, ast.Call) and isinstance(node.func, ast.Attribute) and node.func.attr in VIEWS:
        return named_in(node.func.value)
    return named_in(node)


def changed_in(nodes):
    """A list of tuples (node, text): what these rows change, by a method, an item or a sign."""
    found = []
    for node in [part for row in nodes for part in ast.walk(row)]:
        if isinstance(node, ast.Call) and isinstance(node.func, ast.Attribute) and node.func.attr in CHANGING:
            found += [(node, told) for told in named_in(node.func.value)]
        if isinstance(node, ast.Subscript) and isinstance(node.ctx, (ast.Store, ast.Del)):
            found += [(node, told) for told in named_in(node.value)]
        if isinstance(node, ast.AugAssign):
            found += [(node, told) for told in named_in(node.target)]
    return found


def paired(target, value):
    """The list of tuples (target, value) of an assignment, entry by entry where both are tuples or lists."""
    if isinstance(target, (ast.Tuple, ast.List)) and isinstance(value, (ast.Tuple, ast.List)):
        return [pair for one, other in zip(target.elts, value.elts) for pair in paired(one, other)]
    return [(target, value)]


def same_things(function):
    """A dict from each text to the set of all texts that some rows of assignments give the same thing."""
    groups = {}
    for node in ast.walk(function):
        targets = node.targets if isinstance(node, ast.Assign) else []
        if isinstance(node, (ast.AnnAssign, ast.NamedExpr)):
            targets = [node.target]
        for target, value in [pair for target in targets for pair in paired(target, node.value)]:
            for told in named_in(target):
                for other in named_in(value):
                    joined = groups.get(told, {told}) | groups.get(other, {other})
                    groups.update({name: joined for name in joined})
    return groups


def walks_of(function):
    """A list of tuples (what is walked, the rows that run meanwhile), for each loop and comprehension."""
    found = []
    for node in ast.walk(function):
        if isinstance(node, ast.For):
            found.append((node.iter, node.body))
        if isinstance(node, (ast.ListComp, ast.SetComp, ast.DictComp, ast.GeneratorExp)):
            found += [(part.iter, [node]) for part in node.generators]
    return found


def faults_in_walks(trees):
    """The list of the rows that change what is walked there, as texts "file:line what"."""
    faults = []
    for name, tree in trees.items():
        for function in [node for node in ast.walk(tree) if isinstance(node, ast.FunctionDef)]:
            groups = same_things(function)
            for value, rows in walks_of(function):
                walked = {other for told in walked_in(value) for other in groups.get(told, {told})}
                faults += [f"{name}:{node.lineno} L23 {told} is changed while it is walked, under this name or another"
                           for node, told in changed_in(rows) if told in walked]
    return faults
