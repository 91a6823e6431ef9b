"""The rules L1 to L28 for the package's files, as far as a reading of the source can see them.

It is stricter than the rules where that is simpler: it knows only what this package needs
(no __main__.py, no errors of its own, no lambda), and sends back the rest by the nearest rule.
"""

import ast
import builtins
import re

PACKAGE = "twoends"
ALLOWED_BUILTINS = set(
    "len range enumerate zip min max sum abs sorted reversed int str bool list tuple dict set frozenset isinstance"
    " ord repr any all divmod".split())
ALLOWED_METHODS = set(
    "append clear copy count endswith extend find get index insert isalnum isalpha isdigit islower isspace isupper"
    " items join keys ljust lower lstrip partition pop remove replace reverse rfind rjust rpartition rsplit rstrip"
    " setdefault split splitlines startswith strip update upper values zfill bit_length".split())
ALLOWED_VALUES = set("count index title find get join lower upper split strip copy add".split())
DUNDERS = {"__init__", "__eq__", "__repr__", "__str__", "__len__"}
OF_PYTHONS_VALUES = {name for kind in (str, int, list, dict, set, bytes, tuple) for name in dir(kind)}
NOWHERE = set("register mro elements open input version_info with_traceback add_note".split())
NOT_AS_NAMES = set(
    "attrgetter breakpoint builtins compile copyright credits delattr dir eval exec exit gc getattr globals hasattr"
    " help id importlib license locals methodcaller os quit setattr super type vars sys __name__".split())
WORDS = set(
    "type typing typing_extensions enum Enum IntEnum StrEnum Flag IntFlag Generic Protocol ABC ABCMeta namedtuple"
    " NamedTuple TypedDict TYPE_CHECKING abstractmethod".split())
WITHIN_WORDS = ("dataclass", "overload", "contextmanager")
FILE_NAMES = {"test", "tests", "testing", "site", "conftest", "sitecustomize", "usercustomize"}
FRAME_NAME = re.compile(r"(f|tb|co|gi|cr|ag)_[a-z]+")
PLAIN_NAME = re.compile(r"[A-Za-z][A-Za-z0-9_]*")
STATEMENTS = (
    ast.Assign, ast.AugAssign, ast.If, ast.While, ast.For, ast.Return, ast.Break, ast.Continue, ast.Pass, ast.Raise,
    ast.Try, ast.FunctionDef)
EXPRESSIONS = (
    ast.Constant, ast.List, ast.Tuple, ast.Dict, ast.BinOp, ast.UnaryOp, ast.Compare, ast.BoolOp, ast.IfExp, ast.Call,
    ast.Attribute, ast.Subscript, ast.Slice, ast.ListComp, ast.Name, ast.JoinedStr, ast.FormattedValue)
WALKED = {"zip", "enumerate", "reversed", "range"}
WALKERS = {"list", "tuple", "dict", "sorted", "sum", "any", "all", "enumerate", "zip", "min", "max"}
CHANGES = {"append", "clear", "extend", "insert", "pop", "remove", "reverse", "setdefault", "update"}
KEYWORDS = {
    "sorted": {"key", "reverse"}, "min": {"key", "default"}, "max": {"key", "default"}, "sum": {"start"},
    "enumerate": {"start"}, "zip": {"strict"}}


class Reading:
    """One file's faults, as pairs of a rule and a line."""

    def __init__(self, name, source):
        self.name = name
        self.source = source
        self.faults = []
        self.tree = ast.parse(source)
        self.parents = {
            child: parent for parent in ast.walk(self.tree) for child in ast.iter_child_nodes(parent)}
        self.classes = [node for node in self.tree.body if isinstance(node, ast.ClassDef)]
        self.imports = [node for node in self.tree.body if isinstance(node, ast.ImportFrom)]
        self.imported = {alias.name for node in self.imports for alias in node.names}

    def fault(self, rule, node, wrong=True):
        if wrong:
            self.faults.append((rule, getattr(node, "lineno", node)))

    def read(self):
        self.read_text()
        self.read_top()
        for node in ast.walk(self.tree):
            if isinstance(node, (ast.FunctionDef, ast.AsyncFunctionDef, ast.Lambda)):
                self.read_function(node)
            elif isinstance(node, ast.ClassDef):
                self.read_class(node)
            elif isinstance(node, ast.stmt):
                self.read_statement(node)
            elif isinstance(node, ast.expr):
                self.read_expression(node)
            elif isinstance(node, ast.comprehension):
                self.fault("L7", node.iter, len(node.ifs) > 1 or node.is_async)
        return sorted(set(self.faults))

    def read_text(self):
        rows = self.source.split("\n")
        self.fault("L10", len(rows), len(rows) > 401)
        for at, row in enumerate(rows, start=1):
            self.fault("L10", at, len(row) > 120 or "\t" in row)
            self.fault("L14", at, any(not " " <= sign <= "~" for sign in row))
            words = set(re.findall(r"\w+", row))
            self.fault("L17", at, bool(words & WORDS) or any(part in row for part in WITHIN_WORDS))
            self.fault("L27", at, re.search(r"\\[^nt\\'\"]", row) is not None)

    def read_top(self):
        bound = []
        for at, node in enumerate(self.tree.body):
            docstring = at == 0 and isinstance(node, ast.Expr) and isinstance(node.value, ast.Constant)
            if isinstance(node, (ast.FunctionDef, ast.ClassDef)):
                bound.append(node.name)
            elif isinstance(node, ast.ImportFrom):
                bound.extend(alias.name for alias in node.names)
            elif isinstance(node, ast.Assign) and isinstance(node.targets[0], ast.Name):
                bound.append(node.targets[0].id)
                self.fault("L3", node, not is_plain(node.value))
                self.fault("L15", node, isinstance(node.value, (ast.List, ast.Dict)))
            else:
                self.fault("L3", node, not docstring)
        for name in set(bound):
            self.fault("L15", 1, bound.count(name) > 1 or hasattr(builtins, name))
        self.top_names = set(bound)

    def read_function(self, node):
        self.fault("L4", node, not isinstance(node, ast.FunctionDef) or bool(getattr(node, "decorator_list", [])))
        arguments = node.args
        special = arguments.vararg or arguments.kwarg or arguments.kwonlyargs or arguments.posonlyargs
        self.fault("L4", node, bool(special) or not all(is_plain(value) for value in arguments.defaults))
        self.fault("L21", node, any(one.annotation for one in arguments.args) or bool(getattr(node, "returns", None)))
        if not isinstance(node, ast.FunctionDef):
            return
        self.fault("L10", node, node.end_lineno - node.lineno + 1 > 40)
        self.read_name(node.name, node)
        taken = self.imported | {one.name for one in self.classes} | set(dir(builtins))
        for name in [one.arg for one in arguments.args] + locals_of(node):
            self.read_name(name, node)
            self.fault("L15", node, name in taken)
        if node.name == "__init__":
            self.fault("L28", node, any(isinstance(part, ast.Return) for part in ast.walk(node)))

    def read_class(self, node):
        self.read_name(node.name, node)
        self.fault("L15", node, node not in self.tree.body)
        self.fault("L5", node, bool(node.decorator_list or node.keywords) or len(node.bases) > 1)
        self.fault("L5", node, not all(isinstance(part, ast.FunctionDef) for part in node.body))
        names = [part.name for part in node.body if isinstance(part, ast.FunctionDef)]
        self.fault("L18", node, len(names) != len(set(names)))
        for name in names:
            self.fault("L26", node, name in OF_PYTHONS_VALUES - ALLOWED_METHODS - {"add", "discard"} - DUNDERS)

    def read_name(self, name, node):
        if name in DUNDERS and isinstance(self.parents.get(node), ast.ClassDef):
            return
        self.fault("L12", node, not PLAIN_NAME.fullmatch(name))
        self.fault("L17", node, name in NOWHERE | NOT_AS_NAMES or FRAME_NAME.fullmatch(name) is not None)

    def read_statement(self, node):
        if isinstance(node, (ast.Import, ast.ImportFrom)):
            self.read_import(node)
        elif isinstance(node, ast.Expr):
            docstring = node is self.tree.body[0] and isinstance(node.value, ast.Constant)
            self.fault("L6", node, not docstring and not isinstance(node.value, ast.Call))
        elif not isinstance(node, STATEMENTS):
            self.fault("L6", node)
        if isinstance(node, ast.Assign):
            self.fault("L6", node, len(node.targets) != 1 or isinstance(node.targets[0], (ast.Tuple, ast.List)))
        if isinstance(node, (ast.For, ast.While)):
            self.fault("L6", node, bool(node.orelse))
        if isinstance(node, ast.For):
            self.read_loop(node)
        if isinstance(node, ast.Try):
            self.fault("L6", node, bool(node.finalbody))
            for handler in node.handlers:
                named = isinstance(handler.type, ast.Name)
                self.fault("L19", handler, not named or handler.type.id in ("Exception", "TypeError"))

    def read_import(self, node):
        good = isinstance(node, ast.ImportFrom) and node.level == 0 and node in self.tree.body
        good = good and (node.module or "").startswith(PACKAGE + ".")
        self.fault("L2", node, not good or any(alias.name == "*" or alias.asname for alias in node.names))

    def read_loop(self, node):
        walked = {ast.dump(part) for part in ast.walk(node.iter) if isinstance(part, (ast.Name, ast.Attribute))}
        for part in ast.walk(ast.Module(node.body, [])):
            if isinstance(part, ast.Call) and isinstance(part.func, ast.Attribute) and part.func.attr in CHANGES:
                self.fault("L23", part, ast.dump(part.func.value) in walked)
            if isinstance(part, ast.Subscript) and isinstance(part.ctx, ast.Store):
                self.fault("L23", part, ast.dump(part.value) in walked)

    def read_expression(self, node):
        if isinstance(node, (ast.Set, ast.SetComp)) or (isinstance(node, ast.Name) and node.id in ("set", "frozenset")):
            self.fault("L24", node)
        elif not isinstance(node, EXPRESSIONS):
            self.fault("L7", node)
        readers = {
            ast.Constant: self.read_constant, ast.BinOp: self.read_binop, ast.Compare: self.read_compare,
            ast.ListComp: self.read_listcomp, ast.FormattedValue: self.read_formattedvalue,
            ast.Name: self.read_identifier, ast.Attribute: self.read_attribute, ast.Call: self.read_call}
        if type(node) in readers:
            readers[type(node)](node)

    def read_constant(self, node):
        self.fault("L7", node, isinstance(node.value, (float, complex, bytes)) or node.value is Ellipsis)
        self.fault("L27", node, isinstance(node.value, str) and "%" in node.value)
        self.fault("L27", node, isinstance(node.value, int) and abs(node.value) >= 10**900)

    def read_binop(self, node):
        self.fault("L7", node, isinstance(node.op, (ast.Div, ast.MatMult)))
        if isinstance(node.op, ast.Pow):
            written = isinstance(node.right, ast.Constant) and node.right.value in range(65)
            self.fault("L27", node, not written)

    def read_compare(self, node):
        sides = [node.left, *node.comparators]
        for at, op in enumerate(node.ops):
            if isinstance(op, (ast.Is, ast.IsNot)):
                pair = sides[at:at + 2]
                known = [isinstance(one, ast.Constant) and one.value in (None, True, False) for one in pair]
                self.fault("L20", node, not any(known))

    def read_listcomp(self, node):
        self.fault("L7", node, len(node.generators) != 1)

    def read_formattedvalue(self, node):
        self.fault("L7", node, not isinstance(node.value, ast.Name) or node.format_spec is not None)

    def read_identifier(self, node):
        self.read_name(node.id, node)
        if isinstance(node.ctx, ast.Load) and hasattr(builtins, node.id):
            self.fault("L8", node, node.id not in ALLOWED_BUILTINS)
            parent = self.parents[node]
            kinds = isinstance(parent, ast.Call) and getattr(parent.func, "id", "") == "isinstance"
            called = isinstance(parent, (ast.Call, ast.keyword)) and (parent.func is node if isinstance(
                parent, ast.Call) else parent.arg == "key")
            self.fault("L22", node, not called and not kinds and not isinstance(parent, ast.Tuple))
        if node.id in {one.name for one in self.classes} or node.id[:1].isupper() and not node.id.isupper():
            parent = self.parents[node]
            used = isinstance(parent, (ast.Call, ast.ClassDef, ast.Raise, ast.ExceptHandler))
            handed = isinstance(parent, ast.Call) and node in parent.args and (
                getattr(parent.func, "id", "") != "isinstance")
            based = isinstance(parent, ast.Attribute) and parent.attr == "__init__"
            self.fault("L18", node, not (used or based) or handed)

    def read_attribute(self, node):
        name = node.attr
        if name not in DUNDERS:
            self.fault("L12", node, not PLAIN_NAME.fullmatch(name))
        self.fault("L17", node, name in NOWHERE or FRAME_NAME.fullmatch(name) is not None)
        self.fault("L8", node, name in ("format", "format_map", "mro"))
        if isinstance(node.ctx, ast.Store):
            self.fault("L26", node, name in OF_PYTHONS_VALUES - ALLOWED_VALUES or name in ("args", "sort"))
            self.fault("L18", node, isinstance(node.value, ast.Name) and node.value.id in self.top_names)
        parent = self.parents[node]
        if name in OF_PYTHONS_VALUES - DUNDERS and isinstance(node.ctx, ast.Load):
            self.fault("L25", node, name not in ALLOWED_METHODS)
            called = isinstance(parent, ast.Call) and parent.func is node
            self.fault("L25", node, not called and name not in ALLOWED_VALUES)
        if isinstance(node.value, ast.Name) and node.value.id in self.top_names:
            self.fault("L15", node, name in CHANGES)

    def read_call(self, node):
        name = node.func.id if isinstance(node.func, ast.Name) else ""
        if hasattr(builtins, name) or getattr(node.func, "attr", "") in ALLOWED_METHODS:
            self.fault("L22", node, any(one.arg not in KEYWORDS.get(name, ()) for one in node.keywords))
        self.fault("L7", node, any(one.arg is None for one in node.keywords))
        lazy = name in WALKED or getattr(node.func, "attr", "") in ("items", "keys", "values")
        if lazy:
            parent = self.parents[node]
            looped = isinstance(parent, (ast.For, ast.comprehension)) and parent.iter is node
            handed = isinstance(parent, ast.Call) and getattr(parent.func, "id", "") in WALKERS
            self.fault("L23", node, not looped and not (handed and parent.args[0] is node))


def is_plain(node):
    if isinstance(node, ast.UnaryOp) and isinstance(node.op, ast.USub):
        node = node.operand
        return isinstance(node, ast.Constant) and type(node.value) is int
    if isinstance(node, (ast.Tuple, ast.List)):
        return all(is_plain(one) for one in node.elts)
    if isinstance(node, ast.Dict):
        return all(key is not None and is_plain(key) for key in node.keys) and all(map(is_plain, node.values))
    return isinstance(node, ast.Constant) and (node.value is None or type(node.value) in (int, str, bool))


def locals_of(function):
    names = []
    for node in ast.walk(function):
        if isinstance(node, ast.Name) and isinstance(node.ctx, ast.Store):
            names.append(node.id)
        elif isinstance(node, ast.ExceptHandler) and node.name:
            names.append(node.name)
    return names


def file_faults(name, source):
    """The faults of one file: pairs of a rule and a line."""
    return Reading(name, source).read()


def name_faults(names):
    """The faults of the names in the package's folder."""
    faults = []
    for name in names:
        if not re.fullmatch(r"[A-Za-z0-9_]+\.py", name):
            faults.append(("L1", name))
            continue
        stem = name[:-3]
        if stem == "__init__":
            continue
        bad = stem in FILE_NAMES | WORDS or stem.startswith("test_") or hasattr(builtins, stem)
        if bad or stem != stem.lower() or stem.startswith("_"):
            faults.append(("L14", name))
    if "__init__.py" not in names:
        faults.append(("L14", "__init__.py"))
    return faults


def package_faults(sources):
    """What only all files together show; sources is a dict of file names and texts."""
    faults = []
    readings = {name[:-3]: Reading(name, source) for name, source in sources.items()}
    drawn = {}
    for stem, reading in readings.items():
        drawn[stem] = set() if stem == "__init__" else {"__init__"} if reading.imports else set()
        for node in reading.imports:
            source = (node.module or "").split(".")[-1]
            drawn[stem].add(source)
            for alias in node.names:
                if source not in readings or alias.name not in defined_in(readings[source]):
                    faults.append(("L16", f"{stem}: {alias.name}"))
    for stem in drawn:
        reached, waiting = set(), list(drawn[stem])
        while waiting:
            one = waiting.pop()
            if one not in reached:
                reached.add(one)
                waiting.extend(drawn.get(one, ()))
        if stem in reached:
            faults.append(("L16", stem))
    methods, values = set(), set()
    for reading in readings.values():
        for one in reading.classes:
            methods |= {part.name for part in one.body if isinstance(part, ast.FunctionDef)}
        values |= {node.attr for node in ast.walk(reading.tree)
                   if isinstance(node, ast.Attribute) and isinstance(node.ctx, ast.Store)}
    faults.extend(("L18", name) for name in methods & values)
    if "__init__" in readings:
        faults.extend(("L16", name) for name in defined_in(readings["__init__"]) & set(readings))
    return faults


def defined_in(reading):
    names = set()
    for node in reading.tree.body:
        if isinstance(node, (ast.FunctionDef, ast.ClassDef)):
            names.add(node.name)
        elif isinstance(node, ast.Assign) and isinstance(node.targets[0], ast.Name):
            names.add(node.targets[0].id)
    return names
