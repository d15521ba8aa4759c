"""What can be checked of the rules of the language by a short script: python3 -m tests.language FOLDER."""

import ast
import builtins
import re
import sys
from pathlib import Path

from tests.holds import faults_in_holds
from tests.operators import faults_of
from tests.walks import faults_in_walks

LIBRARY = {"heapq": ("heappush", "heappop", "heapify", "heapreplace", "heappushpop"),
           "math": ("gcd", "lcm", "isqrt", "comb", "perm", "factorial")}
ALLOWED = set(
    "len range enumerate zip min max sum abs sorted reversed int str bool bytes list tuple dict set isinstance ord repr "
    "any all divmod iter next map Exception ValueError TypeError KeyError IndexError LookupError ZeroDivisionError "
    "ArithmeticError OverflowError RuntimeError NotImplementedError AttributeError StopIteration NotImplemented "
    "property staticmethod classmethod super object float".split())
METHODS = set(
    "append clear copy count endswith extend find get index insert isalnum isalpha isdigit islower isspace isupper items "
    "join keys ljust lower lstrip partition pop remove replace reverse rfind rjust rpartition rsplit rstrip setdefault "
    "split splitlines startswith strip update upper values zfill bit_length add discard title capitalize swapcase "
    "casefold center expandtabs removeprefix removesuffix rindex isascii isdecimal isnumeric istitle isidentifier "
    "isprintable".split())
DOUBLE = set(
    "init eq repr str len enter exit call iter lt le gt ge ne add sub mul floordiv mod pow and or xor lshift rshift radd "
    "rsub rmul rfloordiv rmod rand ror rxor rlshift rrshift iadd isub imul ifloordiv imod ipow iand ior ixor ilshift "
    "irshift neg pos invert abs bool contains getitem setitem".split())
NOWHERE = set("register mro elements open input law version_info with_traceback add_note format format_map".split())
WORDS = re.compile(
    r"\b(type|typing|typing_extensions|enum|Enum|IntEnum|StrEnum|Flag|IntFlag|Generic|Protocol|ABC|ABCMeta|namedtuple|"
    r"NamedTuple|TypedDict|TYPE_CHECKING|abstractmethod)\b|dataclass|overload|contextmanager|_wall|_WallAttr")
TAKING_LISTS = ("any", "all", "min", "max", "sum", "sorted")
BARRED = (ast.Import, ast.Global, ast.AsyncFunctionDef, ast.AsyncFor, ast.AsyncWith, ast.Await, ast.TryStar, ast.Div,
          ast.MatMult)


class Reader:
    """Reads the files of a package and keeps what it finds wrong, as texts "file:line rule what"."""

    def __init__(self, folder):
        self.folder = Path(folder)
        self.faults = []
        self.trees = {}
        self.sources = {}
        self.read_files()
        self.own = {node.name for tree in self.trees.values() for node in ast.walk(tree)
                    if isinstance(node, (ast.FunctionDef, ast.ClassDef))}
        self.errors = {node.name for tree in self.trees.values() for node in tree.body
                       if isinstance(node, ast.ClassDef) and node.bases}
        for name, tree in self.trees.items():
            self.read_module(name, tree)
            for node in ast.walk(tree):
                self.read_node(name, node)
        self.read_rings()

    def fault(self, name, node, text):
        self.faults.append(f"{name}:{getattr(node, 'lineno', node)} {text}")

    def read_files(self):
        entries = [path for path in sorted(self.folder.iterdir()) if path.name != "__pycache__"]
        if len(entries) > 100 or not (self.folder / "__init__.py").is_file():
            self.fault(self.folder.name, 0, "L14 number of files, or no __init__.py")
        for path in entries:
            if not re.fullmatch(r"[a-z0-9_]+\.py", path.name) or path.stem in dir(builtins):
                self.fault(path.name, 0, "L1, L14 name of a file")
                continue
            source = path.read_bytes().decode("utf-8")
            for at, line in enumerate(source.split("\n"), 1):
                if len(line) > 120:
                    self.fault(path.name, at, "L10 length of a line")
                if re.search(r"[^ -~]", line):
                    self.fault(path.name, at, "L14 character")
            if source.count("\n") > 399:
                self.fault(path.name, 0, "L10 length of a file")
            self.trees[path.stem] = ast.parse(source)
            self.sources[path.stem] = source

    def read_module(self, name, tree):
        bound = []
        begun = False
        for at, node in enumerate(tree.body):
            if isinstance(node, ast.ImportFrom):
                bound += self.read_import(name, node)
                if begun:
                    self.fault(name, node, "L2 import behind other code")
                continue
            if at == 0 and isinstance(node, ast.Expr) and isinstance(node.value, ast.Constant):
                continue
            begun = True
            if isinstance(node, (ast.FunctionDef, ast.ClassDef)):
                bound.append(node.name)
            elif isinstance(node, ast.Assign) and isinstance(node.targets[0], ast.Name) and len(node.targets) == 1:
                bound.append(node.targets[0].id)
                if any(isinstance(part, (ast.Call, ast.comprehension, ast.Lambda)) for part in ast.walk(node.value)):
                    self.fault(name, node, "L3 value at module level")
            else:
                self.fault(name, node, "L3 statement at module level")
        if len(set(bound)) != len(bound):
            self.fault(name, 0, "L15 a name is bound twice")
        tops = set(bound) - {node.name for node in tree.body if isinstance(node, ast.FunctionDef)} \
            - {target.id for node in tree.body if isinstance(node, ast.Assign) for target in node.targets}
        for node in ast.walk(tree):
            if isinstance(node, ast.arg) and node.arg in tops:
                self.fault(name, node, f"L15 {node.arg} is a class or an import")
            if isinstance(node, ast.Name) and isinstance(node.ctx, ast.Store) and node.id in tops:
                self.fault(name, node, f"L15 {node.id} is a class or an import")

    def read_import(self, name, node):
        names = [alias.name for alias in node.names]
        if node.level or any(alias.asname for alias in node.names) or "*" in names:
            self.fault(name, node, "L2, L16 form of an import")
        elif node.module in LIBRARY:
            if any(told not in LIBRARY[node.module] for told in names):
                self.fault(name, node, "L2 import from the library")
        elif node.module.partition(".")[0] == self.folder.name:
            source = self.trees.get(node.module.partition(".")[2])
            defined = [] if source is None else self.defined_in(source)
            if any(told not in defined for told in names):
                self.fault(name, node, "L16 not the file that defines the name")
        else:
            self.fault(name, node, "L2 import from outside")
        return names

    def defined_in(self, tree):
        return [node.name for node in tree.body if isinstance(node, (ast.FunctionDef, ast.ClassDef))] + \
            [target.id for node in tree.body if isinstance(node, ast.Assign) for target in node.targets]

    def read_rings(self):
        needs = {name: {node.module.partition(".")[2] for node in tree.body if isinstance(node, ast.ImportFrom)
                        and node.module.startswith(self.folder.name)} for name, tree in self.trees.items()}
        while True:
            free = [name for name in needs if not needs[name] & set(needs)]
            if not free:
                break
            for name in free:
                del needs[name]
        if needs:
            self.fault(self.folder.name, 0, f"L16 files import from each other: {sorted(needs)}")

    def read_node(self, name, node):
        if isinstance(node, BARRED):
            self.fault(name, node, f"L2, L6, L7 {type(node).__name__}")
        if isinstance(node, (ast.FunctionDef, ast.ClassDef)):
            self.read_definition(name, node)
        for told in self.names_in(node):
            self.read_name(name, node, told)
        if isinstance(node, ast.Constant):
            self.read_constant(name, node)
        if isinstance(node, ast.Name) and isinstance(node.ctx, ast.Load) and node.id in dir(builtins):
            if node.id not in ALLOWED and node.id not in self.own:
                self.fault(name, node, f"L8 {node.id}")
        if isinstance(node, ast.Call):
            self.read_call(name, node)
        if isinstance(node, ast.ExceptHandler):
            self.read_handler(name, node)
        if isinstance(node, ast.Raise) and node.exc is not None and not isinstance(node.exc, ast.Call):
            self.fault(name, node, "L19 an error that is not created on the spot")
        if isinstance(node, ast.Compare) and any(isinstance(sign, (ast.Is, ast.IsNot)) for sign in node.ops):
            if not isinstance(node.comparators[0], ast.Constant):
                self.fault(name, node, "L20 is")
        if isinstance(node, ast.BinOp) and isinstance(node.op, ast.Pow) and not isinstance(node.right, ast.Constant):
            self.fault(name, node, "L27 power")

    def names_in(self, node):
        if isinstance(node, (ast.FunctionDef, ast.ClassDef)):
            return [node.name]
        if isinstance(node, ast.Name) and not isinstance(node.ctx, ast.Load):
            return [node.id]
        if isinstance(node, (ast.arg, ast.keyword)):
            return [node.arg] if node.arg else []
        if isinstance(node, ast.Attribute):
            return [node.attr]
        return [node.name] if isinstance(node, ast.ExceptHandler) and node.name else []

    def read_name(self, name, node, told):
        if not re.fullmatch(r"_?[A-Za-z][A-Za-z0-9_]*|_", told) and told[2:-2] not in DOUBLE:
            self.fault(name, node, f"L12 {told}")
        if told in NOWHERE:
            self.fault(name, node, f"L17 {told}")
        if told in dir(builtins) and not isinstance(node, (ast.Attribute, ast.keyword)):
            self.fault(name, node, f"L8, L15 {told} has another meaning")

    def read_definition(self, name, node):
        if node.end_lineno - node.lineno >= 40 and isinstance(node, ast.FunctionDef):
            self.fault(name, node, "L10 length of a function")
        for decorator in node.decorator_list:
            told = ast.unparse(decorator)
            if isinstance(node, ast.ClassDef) or not re.fullmatch(r"property|\w+\.setter|(static|class)method", told):
                self.fault(name, node, f"L4 decorator {told}")
        for default in [*node.args.defaults, *node.args.kw_defaults] if isinstance(node, ast.FunctionDef) else []:
            if isinstance(default, (ast.List, ast.Dict, ast.Set, ast.Call, ast.Lambda)):
                self.fault(name, default, "L4 default value")
        if isinstance(node, ast.ClassDef):
            methods = {part.name: part for part in node.body if isinstance(part, ast.FunctionDef)}
            if "__getitem__" in methods and "__iter__" not in methods:
                self.fault(name, node, "L5 __getitem__ without __iter__")
            if "__iter__" in methods:
                body = [part for part in methods["__iter__"].body if not isinstance(part, ast.Expr)]
                told = [ast.unparse(part) for part in body]
                if len(told) != 1 or not re.fullmatch(r"return iter\(self(\.\w+){1,2}\)", told[0]):
                    self.fault(name, node, "L5 __iter__")
        if node.name == "__len__":
            for part in ast.walk(node):
                if isinstance(part, ast.Return) and not re.match(r"len\(|\d+$", ast.unparse(part.value)):
                    self.fault(name, part, "L28 __len__")

    def read_constant(self, name, node):
        if isinstance(node.value, (float, complex)) or node.value is ...:
            self.fault(name, node, "L7 value")
        if isinstance(node.value, str) and "%" in node.value:
            self.fault(name, node, "L27 character in a string")

    def read_call(self, name, node):
        if isinstance(node.func, ast.Attribute):
            if node.func.attr not in METHODS and node.func.attr not in self.own and node.func.attr != "__init__":
                self.fault(name, node, f"L25 method {node.func.attr}")
        if isinstance(node.func, ast.Name) and node.func.id == "reversed":
            if not re.match(r"(list|tuple|sorted|range)\(|[\[(]", ast.unparse(node.args[0])):
                self.fault(name, node, "L5 reversed")
        if isinstance(node.func, ast.Name) and node.func.id in TAKING_LISTS:
            if any(isinstance(value, ast.GeneratorExp) for value in node.args):
                self.fault(name, node, "L7 a generator expression where a list is asked")

    def read_handler(self, name, node):
        caught = node.type.elts if isinstance(node.type, ast.Tuple) else [node.type]
        for error in caught:
            told = "" if error is None else ast.unparse(error)
            if told not in self.errors and told not in ("KeyError", "ZeroDivisionError"):
                self.fault(name, node, f"L19 except {told}")

    def read_words(self):
        for name, source in self.sources.items():
            plain = re.sub(r'"""(?s:.)*?"""|#.*', "", source)
            for found in WORDS.finditer(plain):
                self.faults.append(f"{name} L12, L17 word {found.group()}")


def faults_in(folder):
    """The list of what is wrong in the package folder."""
    reader = Reader(folder)
    reader.read_words()
    trees = reader.trees
    return reader.faults + faults_of(trees) + faults_in_walks(trees) + faults_in_holds(trees)


if __name__ == "__main__":
    found = faults_in(sys.argv[1])
    print("\n".join(found))
    sys.exit(1 if found else 0)
