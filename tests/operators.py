"""What L5 says of operators, `__eq__`, `__str__`, `__repr__`, `__len__` and properties.

They change nothing and call nothing that they are passed, and neither do the functions that they call.
"""

import ast

RUN = set(
    "eq str repr len lt le gt ge ne add sub mul floordiv mod pow and or xor lshift rshift radd rsub rmul rfloordiv rmod "
    "rand ror rxor rlshift rrshift neg pos invert abs bool contains getitem".split())
CHANGING = (
    "append", "clear", "extend", "insert", "pop", "remove", "reverse", "setdefault", "update", "sort", "add", "discard",
)
MAKING = ("list", "dict", "sorted")


def is_root(node):
    """Whether a method is an operator, one of the others named above, or a property."""
    return node.name[2:-2] in RUN or any(ast.unparse(told) == "property" for told in node.decorator_list)


def makes_its_own(value):
    """Whether a value is a new list or dict that its function may change."""
    if isinstance(value, (ast.List, ast.Dict, ast.ListComp)):
        return True
    return isinstance(value, ast.Call) and isinstance(value.func, ast.Name) and value.func.id in MAKING


def root_of(node):
    """The name at the beginning of an item or attribute, None if there is no name."""
    while isinstance(node, (ast.Attribute, ast.Subscript)):
        node = node.value
    return node.id if isinstance(node, ast.Name) else None


class Watcher:
    """Goes through all that the operators of a package run; keeps what it finds wrong, as texts "file:line what"."""

    def __init__(self, trees):
        self.faults = []
        self.seen = []
        self.classes = {}
        self.functions = {}
        self.methods = {}
        for name, tree in trees.items():
            for node in tree.body:
                if isinstance(node, ast.FunctionDef):
                    self.functions[node.name] = (name, node)
                if isinstance(node, ast.ClassDef):
                    self.read_class(name, node)
        for places in list(self.methods.values()):
            for name, node in places:
                if is_root(node):
                    self.watch(name, node)

    def read_class(self, name, node):
        for method in node.body:
            if isinstance(method, ast.FunctionDef):
                self.methods.setdefault(method.name, []).append((name, method))
                if method.name == "__init__":
                    self.classes[node.name] = (name, method)

    def fault(self, name, node, text):
        self.faults.append(f"{name}:{node.lineno} L5 {text}")

    def watch(self, name, function):
        if function in self.seen:
            return
        self.seen.append(function)
        made = self.made_in(function)
        for node in ast.walk(function):
            targets = node.targets if isinstance(node, (ast.Assign, ast.Delete)) else []
            targets = targets + [node.target] if isinstance(node, ast.AugAssign) else targets
            for target in [part for whole in targets for part in ast.walk(whole)]:
                self.watch_target(name, function, target, made)
            if isinstance(node, ast.AugAssign) and not isinstance(node.value, ast.Constant):
                self.fault(name, node, "+= of what is no literal")
            if isinstance(node, ast.Call):
                self.watch_call(name, function, node, made)

    def made_in(self, function):
        values = {}
        for node in ast.walk(function):
            if isinstance(node, ast.Assign) and isinstance(node.targets[0], ast.Name):
                values.setdefault(node.targets[0].id, []).append(node.value)
        return [told for told, given in values.items() if all(makes_its_own(value) for value in given)]

    def watch_target(self, name, function, target, made):
        if isinstance(target, ast.Attribute) and isinstance(target.ctx, (ast.Store, ast.Del)):
            if function.name != "__init__" or root_of(target) != "self":
                self.fault(name, target, "an attribute is changed")
        if isinstance(target, ast.Subscript) and isinstance(target.ctx, (ast.Store, ast.Del)):
            if root_of(target) not in made:
                self.fault(name, target, "an item is changed")

    def watch_call(self, name, function, node, made):
        if isinstance(node.func, ast.Name):
            told = node.func.id
            parameters = [entry.arg for entry in function.args.args + function.args.kwonlyargs]
            if told in parameters:
                self.fault(name, node, f"{told} is passed and called")
            for table in (self.functions, self.classes):
                if told in table:
                    self.watch(*table[told])
        if isinstance(node.func, ast.Attribute):
            if node.func.attr in CHANGING and root_of(node.func) not in made:
                self.fault(name, node, f"{node.func.attr} of what is not made here")
            for place in self.methods.get(node.func.attr, []):
                self.watch(*place)


def faults_of(trees):
    """The list of what is wrong in what the operators of these files run."""
    return Watcher(trees).faults
