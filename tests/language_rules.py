"""Finds where source texts leave the part of Python that the program keeps to (rules L1 to L28).

The program has no use for classes, errors, sets, lambdas, inner functions, annotations, f-strings or recursion.
They are refused outright, which is narrower than the rules and makes L5, L13, L18, L19, L21, L24, L26 and L28 plain.
"""

import ast
import builtins
import io
import re
import tokenize

PACKAGE = "fourletters"

ALLOWED_NODES = (
    ast.Module, ast.FunctionDef, ast.arguments, ast.arg, ast.ImportFrom, ast.alias,
    ast.Assign, ast.AugAssign, ast.If, ast.While, ast.For, ast.Return, ast.Break, ast.Continue, ast.Pass, ast.Expr,
    ast.Constant, ast.List, ast.Tuple, ast.Dict, ast.Name, ast.Attribute, ast.Subscript, ast.Slice, ast.Call,
    ast.keyword, ast.ListComp, ast.comprehension, ast.BinOp, ast.BoolOp, ast.UnaryOp, ast.Compare, ast.IfExp,
    ast.Load, ast.Store, ast.Add, ast.Sub, ast.Mult, ast.FloorDiv, ast.Mod, ast.Pow, ast.LShift, ast.RShift,
    ast.BitAnd, ast.BitOr, ast.BitXor, ast.Invert, ast.Not, ast.UAdd, ast.USub, ast.And, ast.Or, ast.Eq, ast.NotEq,
    ast.Lt, ast.LtE, ast.Gt, ast.GtE, ast.In, ast.NotIn, ast.Is, ast.IsNot,
)
REFUSED_NODES = {
    ast.ClassDef: "L5 L18 L26 L28", ast.Try: "L19", ast.Raise: "L19", ast.Lambda: "L4 L13", ast.Set: "L13 L24",
    ast.AnnAssign: "L21", ast.Import: "L2 L16",
}

CALLED = (
    "len range enumerate zip min max sum abs sorted reversed int str bool list tuple dict ord any all divmod"
).split()
AS_KEY = "len int str abs sum min max tuple".split()
KEYWORDS = {
    "sorted": ("key", "reverse"), "min": ("key", "default"), "max": ("key", "default"), "sum": ("start",),
    "enumerate": ("start",), "zip": ("strict",),
}
METHODS = (
    "append clear copy count endswith extend find get index insert isalnum isalpha isdigit islower isspace isupper"
    " items join keys ljust lower lstrip partition pop remove replace reverse rfind rjust rpartition rsplit rstrip"
    " setdefault split splitlines startswith strip update upper values zfill bit_length"
).split()
CHANGING = "append clear extend insert pop remove reverse setdefault update".split()
READING = "get index count items keys values copy".split()
READERS = "len sum min max sorted list tuple dict any all enumerate zip reversed".split()
WALKS = "zip enumerate reversed range".split()
WALK_METHODS = "items keys values".split()
FIRST_IN = "list tuple dict sorted sum any all enumerate zip".split()

UNUSED = (
    "register mro elements open input version_info with_traceback add_note f_back f_builtins f_code f_globals"
    " f_lasti f_lineno f_locals f_trace tb_frame tb_lasti tb_lineno tb_next co_argcount co_code co_consts co_names"
    " co_varnames gi_frame gi_code cr_frame cr_code ag_frame ag_code attrgetter breakpoint builtins compile copyright"
    " credits delattr dir eval exec exit gc getattr globals hasattr help id importlib license locals methodcaller os"
    " quit setattr super vars sys format format_map"
).split()
WORDS = (
    "type typing typing_extensions enum Enum IntEnum StrEnum Flag IntFlag Generic Protocol ABC ABCMeta namedtuple"
    " NamedTuple TypedDict TYPE_CHECKING abstractmethod"
).split()
PARTS = "dataclass overload contextmanager".split()
FILE_NAMES = "test tests testing site conftest sitecustomize usercustomize".split()


def faults(files):
    """Tell the faults of a package, given as {file name: text}, each as "rule file:line what"."""
    told = []
    trees = {}
    for name, text in sorted(files.items()):
        told += [f"{rule} {name}:{line} {what}" for rule, line, what in text_faults(name, text)]
        try:
            trees[name] = ast.parse(text)
        except (SyntaxError, ValueError):
            told.append(f"L7 {name}:1 not to be read as Python")
    if "__init__.py" not in files:
        told.append("L14 __init__.py:1 is not there")
    for name, tree in trees.items():
        told += [f"{rule} {name}:{line} {what}" for rule, line, what in FileCheck(name, tree, trees).run()]
    told += circle_faults(trees)
    return told


def text_faults(name, text):
    """What is seen without reading the text as Python: names, signs, sizes and words."""
    told = file_name_faults(name)
    lines = text.split("\n")
    if len(lines) > 401 or (len(lines) == 401 and lines[-1] != ""):
        told.append(("L10", 401, "more than 400 lines"))
    for number, line in enumerate(lines, start=1):
        if len(line) > 120:
            told.append(("L10", number, "more than 120 characters"))
        if "\t" in line:
            told.append(("L10", number, "a tab"))
        if re.search(r"[^ -~]", line):
            told.append(("L14", number, "a sign outside the blank to ~"))
        for word in re.findall(r"[A-Za-z0-9_]+", line):
            if word in WORDS or any(part in word for part in PARTS):
                told.append(("L17", number, f"the word {word}"))
    return told + escape_faults(text)


def file_name_faults(name):
    stem = name[:-3]
    if not re.fullmatch(r"[A-Za-z0-9_]+\.py", name):
        return [("L1", 1, "not a plain .py file")]
    if stem == "__init__":
        return []
    if not re.fullmatch(r"[a-z][a-z0-9_]*", stem):
        return [("L14", 1, "not a plain lower-case name")]
    if stem in FILE_NAMES + WORDS or stem.startswith("test_") or hasattr(builtins, stem):
        return [("L14", 1, "a name that no file has")]
    return []


def escape_faults(text):
    told = []
    try:
        tokens = list(tokenize.generate_tokens(io.StringIO(text).readline))
    except (tokenize.TokenError, SyntaxError):
        return told
    for token in tokens:
        if token.type == tokenize.STRING:
            for sign in re.findall(r"\\(.)", token.string, flags=re.S):
                if sign not in "nt\\'\"":
                    told.append(("L27", token.start[0], "an escape that is not used"))
        if token.type == tokenize.NUMBER and len(token.string) > 900:
            told.append(("L27", token.start[0], "a number of more than 900 digits"))
    return told


def top_names(tree):
    """The names that a file itself defines, without its imports."""
    told = []
    for node in tree.body:
        if isinstance(node, ast.FunctionDef):
            told.append(node.name)
        if isinstance(node, ast.Assign):
            told += [target.id for target in node.targets if isinstance(target, ast.Name)]
    return told


def imports_of(tree):
    return [node for node in ast.walk(tree) if isinstance(node, ast.ImportFrom)]


def file_of(module):
    return (module or "")[len(PACKAGE) + 1:] + ".py"


def circle_faults(trees):
    """Files that draw from one another, and functions that call one another in a circle."""
    files = {name: [file_of(row.module) for row in imports_of(tree)] for name, tree in trees.items()}
    calls = {}
    for tree in trees.values():
        for node in tree.body:
            if isinstance(node, ast.FunctionDef):
                calls[node.name] = [part.id for part in ast.walk(node) if isinstance(part, ast.Name)]
    told = [f"L16 {name}:1 draws from itself, if by way of others" for name in in_circle(files)]
    return told + [f"L11 {name} calls itself, if by way of others" for name in in_circle(calls)]


def in_circle(edges):
    told = []
    for start in edges:
        seen = []
        ahead = list(edges[start])
        while ahead:
            name = ahead.pop()
            if name in edges and name not in seen:
                seen.append(name)
                ahead += edges[name]
        if start in seen:
            told.append(start)
    return told


def is_plain(node, within=None):
    """Whether a value of a file's top is plain; a list or dict holds no list or dict."""
    if isinstance(node, ast.Constant):
        return True
    if isinstance(node, ast.UnaryOp) and isinstance(node.op, ast.USub):
        return isinstance(node.operand, ast.Constant)
    if isinstance(node, (ast.List, ast.Dict)) and within is not None:
        return False
    if isinstance(node, (ast.List, ast.Tuple)):
        return all(is_plain(part, node) for part in node.elts)
    if isinstance(node, ast.Dict):
        return all(part is not None and is_plain(part, node) for part in node.keys + node.values)
    return False


class FileCheck:
    """Goes through one file's tree and gathers its faults."""

    def __init__(self, name, tree, trees):
        self.name = name
        self.tree = tree
        self.trees = trees
        self.told = []
        self.above = {}
        for node in ast.walk(tree):
            for part in ast.iter_child_nodes(node):
                self.above[part] = node
        self.imported = [alias.name for row in imports_of(tree) for alias in row.names]
        self.own = top_names(tree) + self.imported
        self.kept = [
            node.targets[0].id for node in tree.body
            if isinstance(node, ast.Assign) and isinstance(node.targets[0], ast.Name)
            and isinstance(node.value, (ast.List, ast.Dict))
        ]

    def fault(self, rules, node, what):
        for rule in rules.split():
            self.told.append((rule, getattr(node, "lineno", 1), what))

    def run(self):
        self.check_top()
        for node in ast.walk(self.tree):
            self.check_kind(node)
            check = getattr(self, "check_" + type(node).__name__, None)
            if check is not None:
                check(node)
        return self.told

    def check_top(self):
        for place, node in enumerate(self.tree.body):
            if isinstance(node, ast.Assign):
                if not is_plain(node.value):
                    self.fault("L3 L15", node, "no plain value")
            elif not isinstance(node, (ast.FunctionDef, ast.ImportFrom, ast.ClassDef, ast.Import, ast.AnnAssign)):
                if place > 0 or not self.is_docstring(node):
                    self.fault("L3", node, "not for the top of a file")
            if self.name == "__init__.py" and not self.is_docstring(node):
                self.fault("L16", node, "more than a docstring in __init__.py")
        for name in self.own:
            if self.own.count(name) > 1:
                self.fault("L15", self.tree, f"{name} is bound twice")
            if hasattr(builtins, name):
                self.fault("L8 L15", self.tree, f"{name} is a name of Python's own")

    def check_kind(self, node):
        if isinstance(node, ALLOWED_NODES):
            return
        for kind, rules in REFUSED_NODES.items():
            if isinstance(node, kind):
                self.fault(rules, node, type(node).__name__)
                return
        self.fault("L6" if isinstance(node, ast.stmt) else "L7", node, type(node).__name__)

    def is_docstring(self, node):
        return isinstance(node, ast.Expr) and isinstance(node.value, ast.Constant) and isinstance(node.value.value, str)

    def check_FunctionDef(self, node):
        self.check_name(node, node.name)
        if self.above[node] is not self.tree:
            self.fault("L4", node, "a function inside another")
        if node.decorator_list:
            self.fault("L4", node, "a decorator")
        if node.returns is not None:
            self.fault("L21", node, "an annotation")
        if node.end_lineno - node.lineno + 1 > 40:
            self.fault("L10", node, "more than 40 lines")
        given = node.args
        if given.vararg or given.kwarg or given.kwonlyargs or given.posonlyargs:
            self.fault("L4", node, "a parameter that is not plain")
        if not all(is_plain(value, node) for value in given.defaults):
            self.fault("L4", node, "a default that is not plain")
        self.check_names_within(node)

    def check_names_within(self, function):
        bound = [part.arg for part in ast.walk(function) if isinstance(part, ast.arg)]
        names = [part for part in ast.walk(function) if isinstance(part, ast.Name)]
        bound += [part.id for part in names if isinstance(part.ctx, ast.Store)]
        for name in bound:
            if name in self.own or hasattr(builtins, name):
                self.fault("L15", function, f"{name} has a meaning already")
        for part in names:
            if isinstance(part.ctx, ast.Load) and part.id not in bound + self.own + CALLED:
                self.fault("L8", part, f"the name {part.id}")

    def check_name(self, node, name):
        if not re.fullmatch(r"[A-Za-z][A-Za-z0-9_]*", name):
            self.fault("L12", node, f"the name {name}")
        if name in UNUSED:
            self.fault("L17", node, f"the name {name}")

    def check_arg(self, node):
        self.check_name(node, node.arg)
        if node.annotation is not None:
            self.fault("L21", node, "an annotation")

    def check_Name(self, node):
        self.check_name(node, node.id)
        above = self.above[node]
        called = isinstance(above, ast.Call) and above.func is node
        if node.id in CALLED and isinstance(node.ctx, ast.Load) and not called:
            if not (isinstance(above, ast.keyword) and above.arg == "key" and node.id in AS_KEY):
                self.fault("L22", node, f"{node.id} is not called")
        if node.id in self.kept and isinstance(node.ctx, ast.Load) and not self.only_reads(node, above):
            self.fault("L15", node, f"{node.id} is handed on or changed")

    def only_reads(self, node, above):
        if isinstance(above, ast.Subscript):
            return above.value is not node or isinstance(above.ctx, ast.Load)
        if isinstance(above, (ast.For, ast.comprehension)):
            return above.iter is node
        if isinstance(above, ast.Attribute):
            return above.attr in READING
        if isinstance(above, ast.Call):
            return isinstance(above.func, ast.Name) and above.func.id in READERS
        return isinstance(above, ast.Compare)

    def check_ImportFrom(self, node):
        if self.above[node] is not self.tree:
            self.fault("L2", node, "an import that is not at the top")
        source = self.trees.get(file_of(node.module))
        if node.level != 0 or not (node.module or "").startswith(PACKAGE + ".") or source is None:
            self.fault("L2 L9 L16", node, "draws from outside the package")
            return
        for alias in node.names:
            if alias.asname is not None or alias.name not in top_names(source):
                self.fault("L2 L16", node, f"{alias.name} is not defined there, or is renamed")

    def check_Assign(self, node):
        if len(node.targets) != 1:
            self.fault("L6", node, "more than one target")
        for target in node.targets:
            if not isinstance(target, (ast.Name, ast.Subscript)):
                self.fault("L6 L26", node, "a target that is neither a name nor an index")

    def check_Expr(self, node):
        above = self.above[node]
        docstring = self.is_docstring(node) and above.body[0] is node
        if not isinstance(node.value, ast.Call) and not docstring:
            self.fault("L6", node, "a value by itself")

    def check_While(self, node):
        if node.orelse:
            self.fault("L6", node, "else behind a loop")

    def check_For(self, node):
        self.check_While(node)
        walked = [part.id for part in ast.walk(node.iter) if isinstance(part, ast.Name)]
        measured = isinstance(node.iter, ast.Call) and getattr(node.iter.func, "id", "") == "range"
        for statement in [] if measured else node.body:
            for part in ast.walk(statement):
                if self.changed_by(part) in walked:
                    self.fault("L23", part, "changes what is walked")

    def changed_by(self, node):
        """The name whose list or dict this node changes, or None."""
        if isinstance(node, ast.Subscript) and isinstance(node.ctx, ast.Store):
            return getattr(node.value, "id", None)
        if isinstance(node, ast.AugAssign):
            return getattr(node.target, "id", None)
        if isinstance(node, ast.Attribute) and node.attr in CHANGING:
            return getattr(node.value, "id", None)
        return None

    def check_Constant(self, node):
        if node.value is None or isinstance(node.value, (bool, int)):
            return
        if not isinstance(node.value, str):
            self.fault("L7", node, "neither a whole number nor a text")
        elif "%" in node.value:
            self.fault("L27", node, "the sign % within a text")

    def check_ListComp(self, node):
        if len(node.generators) != 1 or len(node.generators[0].ifs) > 1 or node.generators[0].is_async:
            self.fault("L7", node, "more than one for or one if")

    def check_BinOp(self, node):
        self.check_power(node, node.op, node.right)

    def check_AugAssign(self, node):
        self.check_power(node, node.op, node.value)
        if not isinstance(node.target, (ast.Name, ast.Subscript)):
            self.fault("L6 L26", node, "a target that is neither a name nor an index")

    def check_power(self, node, sign, right):
        if isinstance(sign, ast.Pow):
            if not (isinstance(right, ast.Constant) and right.value in range(65)):
                self.fault("L27", node, "an exponent that is not written, or not from 0 to 64")

    def check_Compare(self, node):
        sides = [node.left] + node.comparators
        for place, sign in enumerate(node.ops):
            if isinstance(sign, (ast.Is, ast.IsNot)):
                beside = sides[place:place + 2]
                if not any(isinstance(side, ast.Constant) and side.value in (None, True, False)
                           and type(side.value) is not int for side in beside):
                    self.fault("L20", node, "is beside neither None, True nor False")

    def check_Attribute(self, node):
        self.check_name(node, node.attr)
        above = self.above[node]
        if not (isinstance(above, ast.Call) and above.func is node):
            self.fault("L25 L26", node, f"{node.attr} is not called where it stands")
        if node.attr not in METHODS:
            self.fault("L25", node, f"the method {node.attr}")

    def check_Call(self, node):
        called = getattr(node.func, "id", "")
        for keyword in node.keywords:
            if keyword.arg not in KEYWORDS.get(called, ()):
                self.fault("L22", node, f"the keyword {keyword.arg}")
            elif keyword.arg in ("reverse", "strict") and not isinstance(keyword.value, ast.Constant):
                self.fault("L22", node, f"{keyword.arg} is not written")
        if called in WALKS or getattr(node.func, "attr", "") in WALK_METHODS:
            if not self.walked_at_once(node):
                self.fault("L23", node, "is not walked on the spot")

    def walked_at_once(self, node):
        above = self.above[node]
        if isinstance(above, (ast.For, ast.comprehension)):
            return above.iter is node
        if not isinstance(above, ast.Call) or not above.args or above.args[0] is not node:
            return False
        called = getattr(above.func, "id", "")
        if getattr(above.func, "attr", "") == "join":
            return isinstance(above.func.value, ast.Constant)
        return called in FIRST_IN or (called in ("min", "max") and len(above.args) == 1)
