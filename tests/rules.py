"""The rules of ../shared/LANGUAGE.md, as far as a program's text shows them.

faults(sources) takes the package's files, name by name, and tells each fault as (rule, file, line). Where this package
needs less than a rule allows, the check is narrower than the rule: no folder within the package, no __main__.py, no
def within a def, no lambda, no set, no f-string, no try, no raise, no base class, no annotation, no default, no
isinstance. Whoever needs one of these widens the check as far as the rule goes.
"""

import ast
import builtins
import re

PACKAGE = "evenpack"

FUNCTIONS = set(
    "len range enumerate zip min max sum abs sorted reversed int str bool list tuple dict ord repr any all "
    "divmod".split())
NAMES_OUT = set(
    "register mro elements open input version_info with_traceback add_note attrgetter breakpoint builtins compile "
    "copyright credits delattr dir eval exec exit gc getattr globals hasattr help id importlib license locals "
    "methodcaller os quit setattr super type vars sys __name__".split())
ATTRIBUTES_OUT = set(
    "format format_map mro register elements open input version_info with_traceback add_note".split())
FRAME_NAME = re.compile(r"^(f|tb|co|gi|cr|ag)_[a-z]")
WORDS_OUT = re.compile(
    r"\b(type|typing|typing_extensions|enum|Enum|IntEnum|StrEnum|Flag|IntFlag|Generic|Protocol|ABC|ABCMeta"
    r"|namedtuple|NamedTuple|TypedDict|TYPE_CHECKING|abstractmethod)\b|dataclass|overload|contextmanager")
FILE_NAME = re.compile(r"^(__init__|[a-z][a-z0-9_]*)\.py$")
FILE_WORDS_OUT = re.compile(
    r"^(test|tests|testing|test_.*|site|conftest|sitecustomize|usercustomize|typing|typing_extensions|enum"
    r"|.*(dataclass|overload|contextmanager).*)$")
PLAIN_NAME = re.compile(r"^[A-Za-z][A-Za-z0-9_]*$")
METHODS = set(
    "append clear copy count endswith extend find get index insert isalnum isalpha isdigit islower isspace isupper "
    "items join keys ljust lower lstrip partition pop remove replace reverse rfind rjust rpartition rsplit rstrip "
    "setdefault split splitlines startswith strip update upper values zfill bit_length".split())
CHANGING = set("append clear extend insert pop remove reverse setdefault update".split())
TAKEN_BY_PYTHON = set().union(*[dir(kind) for kind in (str, int, list, tuple, dict, set, bytes, Exception)])
KEYWORDS = {
    "sorted": {"key", "reverse"}, "min": {"key", "default"}, "max": {"key", "default"}, "sum": {"start"},
    "enumerate": {"start"}, "zip": {"strict"},
}
WALKS = {"zip", "enumerate", "reversed", "range"}
WALKING_METHODS = {"items", "keys", "values"}
WALKERS = {"list", "tuple", "dict", "sorted", "sum", "any", "all", "enumerate", "zip"}

STATEMENTS = (
    ast.FunctionDef, ast.ClassDef, ast.Return, ast.Assign, ast.AugAssign, ast.For, ast.While, ast.If, ast.ImportFrom,
    ast.Expr, ast.Pass, ast.Break, ast.Continue,
)
EXPRESSIONS = (
    ast.BoolOp, ast.BinOp, ast.UnaryOp, ast.IfExp, ast.Dict, ast.ListComp, ast.Compare, ast.Call, ast.Constant,
    ast.Attribute, ast.Subscript, ast.Name, ast.List, ast.Tuple, ast.Slice,
)


class File:
    """One file: its tree, what stands above each node, and the names of its top."""

    def __init__(self, name, text):
        self.name = name
        self.text = text
        self.tree = ast.parse(text)
        self.above = {}
        for node in ast.walk(self.tree):
            for child in ast.iter_child_nodes(node):
                self.above[child] = node
        self.defs = [node for node in self.tree.body if isinstance(node, ast.FunctionDef)]
        self.classes = [node for node in self.tree.body if isinstance(node, ast.ClassDef)]
        self.values = [node for node in self.tree.body if isinstance(node, ast.Assign)]
        self.imports = [node for node in ast.walk(self.tree) if isinstance(node, ast.ImportFrom)]
        self.imported = [alias.asname or alias.name for node in self.imports for alias in node.names]
        self.own = [node.name for node in self.defs + self.classes]
        self.own += [target.id for node in self.values for target in node.targets if isinstance(target, ast.Name)]

    def every(self, *kinds):
        return [node for node in ast.walk(self.tree) if isinstance(node, kinds)]

    def functions(self):
        return self.every(ast.FunctionDef)

    def methods(self):
        return [node for one in self.classes for node in one.body if isinstance(node, ast.FunctionDef)]

    def stored(self):
        return {node.attr for node in self.every(ast.Attribute) if isinstance(node.ctx, ast.Store)}

    def is_called(self, node):
        above = self.above[node]
        return isinstance(above, ast.Call) and above.func is node


def is_doc(node):
    return isinstance(node, ast.Expr) and isinstance(node.value, ast.Constant) and isinstance(node.value.value, str)


def locals_of(function):
    names = [arg.arg for arg in function.args.args]
    return names + [node.id for node in ast.walk(function)
                    if isinstance(node, ast.Name) and isinstance(node.ctx, ast.Store)]


def file_faults(file):
    plain = file.name[:-3]
    if not FILE_NAME.match(file.name):
        yield "L1", 0
    if FILE_WORDS_OUT.match(plain) or plain in dir(builtins):
        yield "L14", 0
    if not re.match(r"\A[ -~\n]*\Z", file.text):
        yield "L14", 0
    if len(file.text.splitlines()) > 400:
        yield "L10", 400
    for number, row in enumerate(file.text.splitlines(), 1):
        if len(row) > 120:
            yield "L10", number
        if WORDS_OUT.search(row):
            yield "L17", number
        if "\\" in row:
            yield "L27", number
    for node in file.functions():
        if node.end_lineno - node.lineno + 1 > 40:
            yield "L10", node.lineno


def import_faults(file):
    for node in file.every(ast.Import):
        yield "L2", node.lineno
    for node in file.imports:
        if file.above[node] is not file.tree or node.level or not node.module.startswith(PACKAGE + "."):
            yield "L2", node.lineno
        if any(alias.name == "*" for alias in node.names):
            yield "L2", node.lineno
        if any(alias.asname for alias in node.names) or file.name == "__init__.py":
            yield "L16", node.lineno
    behind = False
    for node in file.tree.body:
        if isinstance(node, ast.ImportFrom) and behind:
            yield "L2", node.lineno
        behind = behind or not (is_doc(node) or isinstance(node, ast.ImportFrom))


def is_plain(node, functions):
    if isinstance(node, ast.UnaryOp) and isinstance(node.op, ast.USub):
        node = node.operand
    if isinstance(node, (ast.List, ast.Tuple)):
        return all(is_plain(part, functions) for part in node.elts)
    if isinstance(node, ast.Dict):
        return all(is_plain(part, functions) for part in node.keys + node.values)
    return isinstance(node, ast.Constant) or isinstance(node, ast.Name) and node.id in functions


def top_faults(file):
    functions = []
    for place, node in enumerate(file.tree.body):
        if isinstance(node, ast.FunctionDef):
            functions.append(node.name)
        elif isinstance(node, ast.Assign):
            if not isinstance(node.targets[0], ast.Name) or not is_plain(node.value, functions):
                yield "L3", node.lineno
            within = [part for part in ast.walk(node.value) if isinstance(part, (ast.List, ast.Dict))]
            if any(part is not node.value for part in within):
                yield "L15", node.lineno
        elif not isinstance(node, (ast.ImportFrom, ast.ClassDef)) and not (place == 0 and is_doc(node)):
            yield "L3", node.lineno
    names = file.own + file.imported
    if len(names) != len(set(names)):
        yield "L15", 0


def top_list_faults(file):
    """A list or dict of a file's top is read on the spot, neither changed nor handed on."""
    kept = [node.targets[0].id for node in file.values
            if isinstance(node.value, (ast.List, ast.Dict)) and isinstance(node.targets[0], ast.Name)]
    for node in file.every(ast.Name):
        if node.id not in kept or file.above[node] in file.values:
            continue
        above = file.above[node]
        indexed = isinstance(above, ast.Subscript) and above.value is node and isinstance(above.ctx, ast.Load)
        asked = isinstance(above, ast.Compare) and node in above.comparators
        walked = isinstance(above, (ast.For, ast.comprehension)) and above.iter is node
        copied = (isinstance(above, ast.Call) and isinstance(above.func, ast.Name)
                  and above.func.id in ("len", "list", "dict", "tuple", "sorted", "min", "max", "sum"))
        got = isinstance(above, ast.Attribute) and above.attr == "get" and file.is_called(above)
        if not (indexed or asked or walked or copied or got):
            yield "L15", node.lineno


def function_faults(file):
    for node in file.functions():
        plain = node.args
        if node.decorator_list or plain.vararg or plain.kwarg or plain.kwonlyargs or plain.posonlyargs:
            yield "L4", node.lineno
        if plain.defaults or not isinstance(file.above[node], (ast.Module, ast.ClassDef)):
            yield "L4", node.lineno
        if node.returns or any(arg.annotation for arg in plain.args):
            yield "L21", node.lineno
        for name in locals_of(node):
            if name in [one.name for one in file.classes] + file.imported + dir(builtins):
                yield "L15", node.lineno
    for node in file.every(ast.Lambda):
        yield "L4", node.lineno


def class_faults(file):
    for node in file.every(ast.ClassDef):
        names = [part.name for part in node.body if isinstance(part, ast.FunctionDef)]
        if node.decorator_list or node.bases or node.keywords:
            yield "L5", node.lineno
        if any(not isinstance(part, ast.FunctionDef) and not is_doc(part) for part in node.body):
            yield "L5", node.lineno
        if node not in file.classes:
            yield "L15", node.lineno
        if len(names) != len(set(names)):
            yield "L18", node.lineno
        for part in node.body:
            if isinstance(part, ast.FunctionDef) and part.name.startswith("__"):
                if part.name != "__init__":
                    yield "L28", part.lineno
                if any(isinstance(step, ast.Return) for step in ast.walk(part)):
                    yield "L28", part.lineno


def statement_faults(file):
    for node in file.every(ast.stmt):
        if not isinstance(node, STATEMENTS):
            yield "L21" if isinstance(node, ast.AnnAssign) else "L6", node.lineno
        if isinstance(node, ast.Assign):
            if len(node.targets) != 1 or isinstance(node.targets[0], (ast.Tuple, ast.List)):
                yield "L6", node.lineno
        if isinstance(node, (ast.For, ast.While)) and node.orelse:
            yield "L6", node.lineno
        if isinstance(node, ast.Expr) and not isinstance(node.value, ast.Call) and not is_doc(node):
            yield "L6", node.lineno


def expression_faults(file):
    for node in file.every(ast.expr):
        if not isinstance(node, EXPRESSIONS + (ast.Lambda,)):
            yield "L7", node.lineno
        if isinstance(node, ast.Constant):
            if not isinstance(node.value, (int, str, type(None))):
                yield "L7", node.lineno
            if isinstance(node.value, str) and "%" in node.value:
                yield "L27", node.lineno
            if isinstance(node.value, int) and node.value >= 10 ** 900:
                yield "L27", node.lineno
        if isinstance(node, ast.ListComp):
            if len(node.generators) != 1 or len(node.generators[0].ifs) > 1 or node.generators[0].is_async:
                yield "L7", node.lineno
        if isinstance(node, ast.Compare) and any(isinstance(op, (ast.Is, ast.IsNot)) for op in node.ops):
            beside = node.comparators[0]
            if len(node.ops) > 1 or not (isinstance(beside, ast.Constant) and beside.value in (None, True, False)):
                yield "L20", node.lineno
    for node in file.every(ast.BinOp, ast.AugAssign):
        if isinstance(node.op, (ast.Div, ast.MatMult)):
            yield "L7", node.lineno
        if isinstance(node.op, ast.Pow):
            exponent = node.right if isinstance(node, ast.BinOp) else node.value
            if not isinstance(exponent, ast.Constant) or exponent.value not in range(65):
                yield "L27", node.lineno


def name_faults(file):
    bound = [(node.name, node.lineno) for node in file.functions() + file.classes]
    bound += [(node.arg, node.lineno) for node in file.every(ast.arg)]
    bound += [(node.id, node.lineno) for node in file.every(ast.Name) if isinstance(node.ctx, ast.Store)]
    for name, line in bound:
        if not PLAIN_NAME.match(name) and name != "__init__":
            yield "L12", line
        if name in dir(builtins):
            yield "L8", line
    for node in file.every(ast.Name):
        if node.id in NAMES_OUT:
            yield "L17", node.lineno
        if node.id in dir(builtins):
            if node.id not in FUNCTIONS:
                yield "L8", node.lineno
            elif not file.is_called(node) and not isinstance(file.above[node], ast.keyword):
                yield "L22", node.lineno
    for node in file.every(ast.Attribute):
        if node.attr in ATTRIBUTES_OUT or FRAME_NAME.match(node.attr):
            yield "L17", node.lineno
        if not PLAIN_NAME.match(node.attr):
            yield "L12", node.lineno
        if isinstance(node.ctx, ast.Store) and not (
                isinstance(node.value, ast.Name) and node.value.id not in file.own + file.imported):
            yield "L18", node.lineno
    for node in file.every(ast.Name):
        classes = [one.name for one in file.classes] + [name for name in file.imported if name[:1].isupper()]
        if node.id in classes and not file.is_called(node):
            yield "L18", node.lineno


def call_faults(file):
    for node in file.every(ast.Call):
        called = node.func.id if isinstance(node.func, ast.Name) else ""
        attribute = node.func.attr if isinstance(node.func, ast.Attribute) else ""
        for keyword in node.keywords:
            if called in dir(builtins) and keyword.arg not in KEYWORDS.get(called, ()) or attribute in METHODS:
                yield "L22", node.lineno
        if called in WALKS or attribute in WALKING_METHODS:
            above = file.above[node]
            looped = isinstance(above, (ast.For, ast.comprehension)) and above.iter is node
            by = above.func.id if isinstance(above, ast.Call) and isinstance(above.func, ast.Name) else ""
            taken = by in WALKERS and (above.args[0] is node or by == "zip")
            alone = by in ("min", "max") and len(above.args) == 1
            if not (looped or taken or alone):
                yield "L23", node.lineno


def walked_by(node):
    """The names and values that this loop walks, also through enumerate, zip, reversed or items."""
    parts = [node.iter]
    if isinstance(node.iter, ast.Call):
        parts = list(node.iter.args)
        if isinstance(node.iter.func, ast.Attribute):
            parts.append(node.iter.func.value)
        elif node.iter.func.id not in WALKS:
            parts = []
    return [ast.unparse(part) for part in parts if isinstance(part, (ast.Name, ast.Attribute))]


def loop_faults(file):
    for node in file.every(ast.For):
        walked = walked_by(node)
        for part in [part for step in node.body for part in ast.walk(step)]:
            stored = isinstance(part, ast.Subscript) and isinstance(part.ctx, ast.Store)
            changed = isinstance(part, ast.Attribute) and part.attr in CHANGING
            if (stored or changed) and ast.unparse(part.value) in walked:
                yield "L23", part.lineno


def package_faults(files):
    """What is only seen over all files: where names come from, rings, and names of methods and values."""
    if "__init__.py" not in [file.name for file in files]:
        yield "L14", "", 0
    by_name = {file.name: file for file in files}
    draws = {}
    for file in files:
        draws[file.name] = []
        for node in file.imports:
            source = (node.module or "").rpartition(".")[2] + ".py"
            draws[file.name].append(source)
            if source not in by_name or any(alias.name not in by_name[source].own for alias in node.names):
                yield "L16", file.name, node.lineno
    yield from [("L16", name, 0) for name in in_a_ring(draws)]
    methods = {node.name for file in files for node in file.methods()} - {"__init__"}
    stored = set().union(*[file.stored() for file in files])
    for file in files:
        for node in file.methods():
            if node.name in stored:
                yield "L18", file.name, node.lineno
        for node in file.every(ast.Attribute):
            if file.is_called(node):
                if node.attr not in methods | METHODS:
                    yield "L25", file.name, node.lineno
            elif node.attr not in stored:
                yield "L25", file.name, node.lineno
    for name in sorted((methods | stored) & TAKEN_BY_PYTHON):
        yield "L26", name, 0
    yield from [("L11", str(name), 0) for name in in_a_ring(calls_of(files))]


def calls_of(files):
    """Which defs and methods each one calls, by name; a ring among them would be a recursion."""
    calls = {}
    for file in files:
        for node in file.functions():
            kind = "." if node in file.methods() else ""
            reached = calls.setdefault(kind + node.name, [])
            for part in ast.walk(node):
                if isinstance(part, ast.Call) and isinstance(part.func, ast.Name):
                    reached.append(part.func.id)
                if isinstance(part, ast.Call) and isinstance(part.func, ast.Attribute):
                    reached.append("." + part.func.attr)
    return calls


def in_a_ring(leads):
    """The names from which one comes back to them."""
    found = []
    for name in leads:
        open_ones = list(leads[name])
        seen = set()
        while open_ones:
            reached = open_ones.pop()
            if reached not in seen:
                seen.add(reached)
                open_ones.extend(leads.get(reached, []))
        if name in seen:
            found.append(name)
    return found


BY_FILE = (
    file_faults, import_faults, top_faults, top_list_faults, function_faults, class_faults, statement_faults,
    expression_faults, name_faults, call_faults, loop_faults,
)


def faults(sources):
    files = [File(name, text) for name, text in sources.items()]
    found = [(rule, file.name, line) for file in files for check in BY_FILE for rule, line in check(file)]
    return found + list(package_faults(files))
