"""Checks the package against LANGUAGE.md, rule by rule.

Where a rule leaves a choice that the package has no need of, the check leaves none: no import, try, set,
lambda, def within a def, f-string, annotation, power, recursion, nor a list or dict at a file's top.
"""

import ast
import builtins
import re
import symtable

LETTERS = re.compile(r"[A-Za-z][A-Za-z0-9_]*")
FILE_NAME = re.compile(r"(__init__|[a-z][a-z0-9_]*)\.py")

OWN_NAMES = set(
    "len range enumerate zip min max sum abs sorted reversed int str bool list tuple dict isinstance ord repr any all"
    " divmod Exception ValueError TypeError KeyError IndexError LookupError ZeroDivisionError ArithmeticError"
    " OverflowError RuntimeError NotImplementedError".split())
ERROR_NAMES = {name for name in OWN_NAMES if name[0].isupper()}
METHODS = set(
    "append clear copy count endswith extend find get index insert isalnum isalpha isdigit islower isspace isupper"
    " items join keys ljust lower lstrip partition pop remove replace reverse rfind rjust rpartition rsplit rstrip"
    " setdefault split splitlines startswith strip update upper values zfill bit_length".split())
CHANGING = set("append clear extend insert pop remove reverse setdefault update".split())
TAKEN = {name for kind in (str, int, list, tuple, dict, set, frozenset, bytes, bytearray) for name in dir(kind)}

UNUSED_NAMES = set(
    "register mro elements open input version_info with_traceback add_note attrgetter breakpoint builtins compile"
    " copyright credits delattr dir eval exec exit gc getattr globals hasattr help id importlib license locals"
    " methodcaller os quit setattr super type vars sys __name__ format format_map".split())
FRAME_NAME = re.compile(r"(f|tb|co|gi|cr|ag)_[a-z]+")
UNUSED_WORDS = re.compile(
    r"\b(type|typing|typing_extensions|enum|Enum|IntEnum|StrEnum|Flag|IntFlag|Generic|Protocol|ABC|ABCMeta|namedtuple"
    r"|NamedTuple|TypedDict|TYPE_CHECKING|abstractmethod)\b|dataclass|overload|contextmanager")
UNUSED_FILES = re.compile(
    r"tests?|testing|test_.*|site|conftest|sitecustomize|usercustomize|typing|typing_extensions|enum|namedtuple"
    r"|abstractmethod|.*(dataclass|overload|contextmanager).*")

STATEMENTS = (
    ast.Assign, ast.AugAssign, ast.If, ast.While, ast.For, ast.Return, ast.Break, ast.Continue, ast.Pass, ast.Raise,
    ast.Expr, ast.FunctionDef, ast.ClassDef)
EXPRESSIONS = (
    ast.Constant, ast.List, ast.Tuple, ast.Dict, ast.BinOp, ast.UnaryOp, ast.BoolOp, ast.Compare, ast.IfExp, ast.Call,
    ast.Attribute, ast.Subscript, ast.Slice, ast.ListComp, ast.Name)
OPERATORS = (
    ast.Add, ast.Sub, ast.Mult, ast.FloorDiv, ast.Mod, ast.BitAnd, ast.BitOr, ast.BitXor, ast.LShift, ast.RShift)
# Rules that speak of what is not used at all: where it stands, each of them is named.
RULES_OF = {
    ast.Import: "L2 L16", ast.ImportFrom: "L2 L16", ast.Try: "L19", ast.Set: "L7 L13 L24", ast.Lambda: "L4 L13",
    ast.JoinedStr: "L27", ast.Pow: "L27", ast.SetComp: "L7 L24", ast.AnnAssign: "L6 L21"}

KEYWORDS = {
    "sorted": ("key", "reverse"), "min": ("key", "default"), "max": ("key", "default"), "sum": ("start",),
    "enumerate": ("start",), "zip": ("strict",)}
WALKED = ("zip", "enumerate", "reversed", "range")
WALKED_METHODS = ("items", "keys", "values")
WALKERS = ("list", "tuple", "dict", "sorted", "sum", "any", "all", "enumerate", "zip", "min", "max")


class Checked:
    """What the files of a package, as texts by their names, do against the rules."""

    def __init__(self, files):
        self.files = files
        self.faults = []
        self.trees = {name: ast.parse(text) for name, text in files.items()}
        self.collect()
        for name in sorted(files):
            self.file_name = name
            self.check_text(files[name])
            self.check_tree(self.trees[name])
            self.check_names(files[name])
        self.check_recursion()

    def fault(self, rules, line, what):
        self.faults.append((tuple(rules.split()), self.file_name, line, what))

    def nodes(self, kinds):
        return [node for tree in self.trees.values() for node in ast.walk(tree) if isinstance(node, kinds)]

    def collect(self):
        self.classes = {node.name for node in self.nodes(ast.ClassDef)}
        self.methods = {}
        for node in self.nodes(ast.ClassDef):
            self.methods[node.name] = [part.name for part in node.body if isinstance(part, ast.FunctionDef)]
        self.method_names = {name for names in self.methods.values() for name in names}
        self.value_names = {node.attr for node in self.nodes(ast.Attribute) if isinstance(node.ctx, ast.Store)}
        self.functions = {
            node.name for tree in self.trees.values() for node in tree.body if isinstance(node, ast.FunctionDef)}
        self.errors = {
            node.name for node in self.nodes(ast.ClassDef)
            if any(isinstance(base, ast.Name) and base.id in ERROR_NAMES for base in node.bases)}

    # The text

    def check_text(self, text):
        if not FILE_NAME.fullmatch(self.file_name):
            self.fault("L1 L14", 0, "a file's name")
        stem = self.file_name.removesuffix(".py")
        if stem != "__init__" and (UNUSED_FILES.fullmatch(stem) or hasattr(builtins, stem)):
            self.fault("L14 L17", 0, "a file's name")
        lines = text.split("\n")
        if len(lines) > 401 or len(lines) == 401 and lines[-1]:
            self.fault("L10", 401, "a long file")
        for number, line in enumerate(lines, 1):
            if len(line) > 120:
                self.fault("L10", number, "a long line")
            if "\t" in line:
                self.fault("L10", number, "a tab")
            if not all(" " <= sign <= "~" for sign in line):
                self.fault("L14", number, "a sign")
            if "\\" in line:
                self.fault("L27", number, "an escape")
            if UNUSED_WORDS.search(line):
                self.fault("L17", number, "a word that stands nowhere")

    # The tree

    def check_tree(self, tree):
        for parent in ast.walk(tree):
            for child in ast.iter_child_nodes(parent):
                child.parent = parent
        self.check_top(tree)
        for node in ast.walk(tree):
            self.check_kind(node)
            for kind, check in self.checks():
                if isinstance(node, kind):
                    check(node)

    def checks(self):
        return (
            (ast.FunctionDef, self.check_function), (ast.ClassDef, self.check_class), (ast.Assign, self.check_assign),
            (ast.AugAssign, self.check_target), ((ast.For, ast.While), self.check_loop), (ast.Raise, self.check_raise),
            (ast.Expr, self.check_alone), (ast.Constant, self.check_constant), (ast.Dict, self.check_dict),
            (ast.ListComp, self.check_comprehension), (ast.Compare, self.check_compare), (ast.Call, self.check_call),
            (ast.Name, self.check_use), (ast.Attribute, self.check_attribute), (ast.For, self.check_unchanged))

    def check_top(self, tree):
        seen = set()
        for place, node in enumerate(tree.body):
            names = []
            if isinstance(node, (ast.FunctionDef, ast.ClassDef)):
                names = [node.name]
            elif isinstance(node, ast.Assign) and isinstance(node.targets[0], ast.Name):
                names = [node.targets[0].id]
                if not self.is_plain(node.value, seen):
                    self.fault("L3 L15", node.lineno, "not a plain value")
            elif not (place == 0 and is_text(node)):
                self.fault("L3", node.lineno, "stands at a file's top")
            for name in names:
                if name in seen:
                    self.fault("L15", node.lineno, "bound twice")
                seen.add(name)

    def is_plain(self, value, above=()):
        if isinstance(value, ast.Tuple):
            return all(self.is_plain(part, above) for part in value.elts)
        if isinstance(value, ast.UnaryOp) and isinstance(value.op, ast.USub):
            return isinstance(value.operand, ast.Constant) and isinstance(value.operand.value, int)
        if isinstance(value, ast.Name):
            return value.id in above and value.id in self.functions
        return isinstance(value, ast.Constant)

    def check_kind(self, node):
        rules = RULES_OF.get(type(node))
        if rules:
            self.fault(rules, getattr(node, "lineno", 0), type(node).__name__)
        if isinstance(node, ast.stmt) and not isinstance(node, STATEMENTS):
            self.fault("L6", node.lineno, type(node).__name__)
        if isinstance(node, ast.expr) and not isinstance(node, EXPRESSIONS):
            self.fault("L7", node.lineno, type(node).__name__)
        if isinstance(node, ast.operator) and not isinstance(node, OPERATORS):
            self.fault("L7", 0, type(node).__name__)

    def check_function(self, node):
        arguments = node.args
        if arguments.vararg or arguments.kwarg or arguments.kwonlyargs or arguments.posonlyargs:
            self.fault("L4", node.lineno, "parameters")
        if node.decorator_list:
            self.fault("L4", node.lineno, "a decorator")
        if not all(self.is_plain(value) for value in arguments.defaults):
            self.fault("L4", node.lineno, "a default")
        if not isinstance(node.parent, (ast.Module, ast.ClassDef)):
            self.fault("L4", node.lineno, "a def within a def")
        if node.returns or any(argument.annotation for argument in arguments.args):
            self.fault("L21", node.lineno, "an annotation")
        if node.end_lineno - node.lineno >= 40:
            self.fault("L10", node.lineno, "a long function")
        if node.name == "__init__":
            for part in ast.walk(node):
                if isinstance(part, ast.Return) and part.value is not None:
                    self.fault("L28", part.lineno, "gives something back")
        elif node.name.startswith("__"):
            self.fault("L5 L28", node.lineno, "two underscores")

    def check_class(self, node):
        if not isinstance(node.parent, ast.Module):
            self.fault("L15", node.lineno, "a class not at a file's top")
        if len(node.bases) > 1 or node.keywords or node.decorator_list:
            self.fault("L5", node.lineno, "bases or decorators")
        for base in node.bases:
            if not isinstance(base, ast.Name) or base.id not in self.classes | ERROR_NAMES:
                self.fault("L5 L18", node.lineno, "a base")
        for part in node.body:
            if not isinstance(part, (ast.FunctionDef, ast.Pass)):
                self.fault("L5", part.lineno, "a value in a class")
        names = self.methods[node.name]
        if len(names) != len(set(names)):
            self.fault("L18", node.lineno, "a method twice")
        for name in names:
            if name in self.value_names:
                self.fault("L18", node.lineno, "a method that is a value too")
            if name in TAKEN - {"__init__"}:
                self.fault("L26", node.lineno, "a method's name")

    def check_assign(self, node):
        if len(node.targets) > 1 or not isinstance(node.targets[0], (ast.Name, ast.Attribute, ast.Subscript)):
            self.fault("L6", node.lineno, "several targets")
        self.check_target(node)

    def check_target(self, node):
        target = node.target if isinstance(node, ast.AugAssign) else node.targets[0]
        if not isinstance(target, (ast.Attribute, ast.Subscript)):
            return
        while isinstance(target, (ast.Attribute, ast.Subscript)):
            target = target.value
        if not isinstance(target, ast.Name) or target.id in self.tops():
            self.fault("L15 L18", node.lineno, "given to what is not local")

    def tops(self):
        names = set(self.classes)
        for node in self.trees[self.file_name].body:
            if isinstance(node, ast.Assign):
                names.update(target.id for target in node.targets if isinstance(target, ast.Name))
            elif isinstance(node, ast.FunctionDef):
                names.add(node.name)
        return names

    def check_loop(self, node):
        if node.orelse:
            self.fault("L6", node.lineno, "else behind a loop")

    def check_raise(self, node):
        made = isinstance(node.exc, ast.Call) and isinstance(node.exc.func, ast.Name)
        if not made or node.exc.func.id not in self.errors or node.cause is not None:
            self.fault("L19", node.lineno, "not an own error made on the spot")

    def check_alone(self, node):
        first = isinstance(node.parent, ast.Module) and node.parent.body[0] is node
        if not isinstance(node.value, ast.Call) and not (first and is_text(node)):
            self.fault("L6", node.lineno, "neither a call nor a file's docstring")

    def check_constant(self, node):
        if not isinstance(node.value, (int, str, type(None))):
            self.fault("L7", node.lineno, "a value")
        if isinstance(node.value, str) and "%" in node.value:
            self.fault("L27", node.lineno, "a sign in a text")
        if isinstance(node.value, int) and node.value.bit_length() > 2900:
            self.fault("L27", node.lineno, "a long number")

    def check_dict(self, node):
        if None in node.keys:
            self.fault("L7", node.lineno, "a star")

    def check_comprehension(self, node):
        if len(node.generators) > 1 or len(node.generators[0].ifs) > 1 or node.generators[0].is_async:
            self.fault("L7", node.lineno, "a comprehension")

    def check_compare(self, node):
        sides = [node.left] + node.comparators
        for place, operator in enumerate(node.ops):
            pair = sides[place:place + 2]
            single = any(isinstance(side, ast.Constant) and side.value in (None, True, False) for side in pair)
            if isinstance(operator, (ast.Is, ast.IsNot)) and not single:
                self.fault("L20", node.lineno, "is")

    def check_call(self, node):
        name = node.func.id if isinstance(node.func, ast.Name) else ""
        if any(keyword.arg not in KEYWORDS.get(name, ()) for keyword in node.keywords):
            self.fault("L22", node.lineno, "a keyword")
        for keyword in node.keywords:
            written = isinstance(keyword.value, ast.Constant) and isinstance(keyword.value.value, bool)
            if keyword.arg in ("reverse", "strict") and not written:
                self.fault("L22", node.lineno, "not a written True or False")
        method = node.func.attr if isinstance(node.func, ast.Attribute) else ""
        if (name in WALKED or method in WALKED_METHODS) and not is_walked(node):
            self.fault("L23", node.lineno, "kept, not walked")
        if method and method not in METHODS | self.method_names:
            self.fault("L25", node.lineno, "a method")
        if name in ("set", "frozenset"):
            self.fault("L11 L24", node.lineno, "a set")

    def check_use(self, node):
        """A class, or a name of Python's own, is used only where it may stand."""
        called = isinstance(node.parent, ast.Call) and node.parent.func is node
        base = isinstance(node.parent, ast.ClassDef)
        if node.id in self.classes and not (called or base):
            self.fault("L18", node.lineno, "a class as a value")
        if node.id in UNUSED_NAMES:
            self.fault("L17", node.lineno, "a name that is not used")
        if node.id in ("print", "open", "input"):
            self.fault("L9", node.lineno, "prints or reads")
        if not hasattr(builtins, node.id):
            return
        if node.id == "chr":
            self.fault("L27", node.lineno, "chr")
        if node.id not in OWN_NAMES:
            self.fault("L8", node.lineno, "a name of Python's own")
        elif not (called or base):
            self.fault("L22", node.lineno, "a name of Python's own, not called")

    def check_attribute(self, node):
        called = isinstance(node.parent, ast.Call) and node.parent.func is node
        if isinstance(node.ctx, ast.Load) and not called and node.attr not in self.value_names:
            self.fault("L25", node.lineno, "neither called nor an own value")
        if isinstance(node.ctx, ast.Store) and node.attr in TAKEN | {"args", "sort"}:
            self.fault("L26", node.lineno, "a value's name")
        if node.attr in UNUSED_NAMES or FRAME_NAME.fullmatch(node.attr):
            self.fault("L8 L17", node.lineno, "a name that is not used")

    def check_unchanged(self, node):
        """What a loop walks is not changed in it."""
        walked = [node.iter]
        if isinstance(node.iter, ast.Call):
            walked = node.iter.args
            if isinstance(node.iter.func, ast.Attribute):
                walked = [node.iter.func.value]
        walked = {ast.unparse(part) for part in walked}
        for part in [part for statement in node.body for part in ast.walk(statement)]:
            changed = None
            if isinstance(part, ast.Subscript) and isinstance(part.ctx, ast.Store):
                changed = part.value
            if isinstance(part, ast.Call) and isinstance(part.func, ast.Attribute) and part.func.attr in CHANGING:
                changed = part.func.value
            if isinstance(part, ast.AugAssign):
                changed = part.target
            if changed is not None and ast.unparse(changed) in walked:
                self.fault("L23", part.lineno, "changes what is walked")

    # Names

    def check_names(self, text):
        top = symtable.symtable(text, self.file_name, "exec")
        tables = [top]
        while tables:
            table = tables.pop()
            tables.extend(table.get_children())
            for symbol in table.get_symbols():
                self.check_bound(table, symbol)
        for node in ast.walk(self.trees[self.file_name]):
            if isinstance(node, ast.Attribute):
                self.check_plain(node.attr, node.lineno)

    def check_bound(self, table, symbol):
        name, line = symbol.get_name(), table.get_lineno()
        # A comprehension has a hidden parameter, which nobody writes.
        if name.startswith("."):
            return
        self.check_plain(name, line)
        local = table.get_type() == "function" and (symbol.is_parameter() or symbol.is_assigned())
        bound = local or table.get_type() == "module" and (symbol.is_assigned() or symbol.is_namespace())
        if bound and hasattr(builtins, name):
            self.fault("L8 L15", line, f"{name} has another meaning")
        if local and name in self.tops():
            self.fault("L15", line, f"{name} is called like what stands at the top")

    def check_plain(self, name, line):
        if name != "__init__" and not LETTERS.fullmatch(name):
            self.fault("L8 L12" if name.startswith("__") else "L12", line, f"the name {name}")

    # Recursion

    def check_recursion(self):
        calls = {}
        for node in self.nodes(ast.FunctionDef):
            called = [part.func for part in ast.walk(node) if isinstance(part, ast.Call)]
            names = {getattr(part, "id", getattr(part, "attr", "")) for part in called}
            calls.setdefault(node.name, set()).update(names & (self.functions | self.method_names))
        for name in sorted(calls):
            reached, ahead = set(), [name]
            while ahead:
                further = calls[ahead.pop()] - reached
                reached |= further
                ahead.extend(further)
            if name in reached:
                self.fault("L11", 0, f"{name} calls itself")


def is_text(node):
    return isinstance(node, ast.Expr) and isinstance(node.value, ast.Constant) and isinstance(node.value.value, str)


def is_walked(node):
    parent = node.parent
    if isinstance(parent, (ast.For, ast.comprehension)):
        return parent.iter is node
    if not isinstance(parent, ast.Call) or node not in parent.args:
        return False
    if isinstance(parent.func, ast.Attribute):
        return parent.func.attr == "join" and isinstance(parent.func.value, ast.Constant)
    if not isinstance(parent.func, ast.Name) or parent.func.id not in WALKERS:
        return False
    return parent.args[0] is node and (parent.func.id not in ("min", "max") or len(parent.args) == 1)


def faults(files):
    return Checked(files).faults


def folder_faults(folder):
    """What lies in the package's folder against L1 and L14; Python's own cache is not the package's."""
    found = []
    for entry in sorted(folder.iterdir()):
        if entry.name == "__pycache__":
            continue
        if not entry.is_file() or not FILE_NAME.fullmatch(entry.name):
            found.append((("L1", "L14"), entry.name, 0, "lies in the package"))
            continue
        try:
            entry.read_bytes().decode("utf-8")
        except UnicodeDecodeError:
            found.append((("L1",), entry.name, 0, "not UTF-8"))
    if not (folder / "__init__.py").is_file():
        found.append((("L14",), "__init__.py", 0, "is missing"))
    return found
