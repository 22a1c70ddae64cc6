"""Finds where files of the package leave the rules of LANGUAGE.md.

`faults(sources)` takes a dict of file names (as they lie in the package's
folder) to their texts, and tells a sorted list of (rule, file, line). It finds
what is plain from the code's form, which is not all that the rules say: how deep
a recursion goes (L11), say, or what an annotation holds (L4), is left to readers.
"""

import ast
import builtins
import io
import re
import tokenize

PACKAGE = "vatyard"
OWN_METHODS = ("__init__", "__eq__", "__repr__", "__str__", "__len__")
DUNDERS = OWN_METHODS + ("__all__", "__version__", "__name__")
ERRORS = (
    "Exception ValueError TypeError KeyError IndexError LookupError ZeroDivisionError ArithmeticError"
    " OverflowError RuntimeError NotImplementedError AttributeError StopIteration"
).split()
CALLED = (
    "len range enumerate zip min max sum abs sorted reversed int str bool list tuple dict set frozenset"
    " isinstance ord repr any all divmod"
).split()
KEPT_AS_KEY = "len int str abs sum min max tuple".split()
CHECKED_BY_ISINSTANCE = "int str bool list tuple dict".split()
KEYWORDS = {
    "sorted": ("key", "reverse"),
    "min": ("key", "default"),
    "max": ("key", "default"),
    "sum": ("start",),
    "enumerate": ("start",),
    "zip": ("strict",),
}
METHODS = (
    "append clear copy count endswith extend find get index insert isalnum isalpha isdigit islower isspace"
    " isupper items join keys ljust lower lstrip partition pop remove replace reverse rfind rjust rpartition"
    " rsplit rstrip setdefault split splitlines startswith strip update upper values zfill bit_length"
).split()
CHANGING = "append clear extend insert pop remove reverse setdefault update".split()
READING = "get items keys values index count copy".split()
VALUE_NAMES = "count index title find get join lower upper split strip copy add".split()
KINDS_OF_PYTHON = (str, int, list, dict, set, frozenset, tuple, bytes)
PYTHON_ATTRIBUTES = {name for kind in KINDS_OF_PYTHON for name in dir(kind)}
WALKED = ("zip", "enumerate", "reversed", "range")
WALKED_METHODS = ("items", "keys", "values")
WALKERS = "list tuple dict sorted sum any all enumerate zip".split()
NEVER = (
    "register mro elements open input version_info with_traceback add_note format format_map"
    " f_back f_code f_globals f_locals f_builtins f_lineno f_lasti f_trace tb_next tb_frame tb_lineno tb_lasti"
    " co_names co_code co_consts co_varnames co_filename co_name gi_frame gi_code cr_frame cr_code ag_frame"
).split()
NOT_NAMES = (
    "attrgetter breakpoint builtins compile copyright credits delattr dir eval exec exit gc getattr globals"
    " hasattr help id importlib license locals methodcaller os quit setattr super type vars"
).split()
WORDS = (
    "type typing typing_extensions enum Enum IntEnum StrEnum Flag IntFlag Generic Protocol ABC ABCMeta"
    " namedtuple NamedTuple TypedDict TYPE_CHECKING abstractmethod"
).split()
WITHIN_WORDS = ("dataclass", "overload", "contextmanager")
FILES_NOT_USED = "test tests testing site conftest sitecustomize usercustomize".split()
NODES = (
    ast.Module, ast.FunctionDef, ast.ClassDef, ast.Return, ast.Assign, ast.AugAssign, ast.AnnAssign, ast.For,
    ast.While, ast.If, ast.Raise, ast.Try, ast.ExceptHandler, ast.Import, ast.ImportFrom, ast.alias, ast.Expr,
    ast.Pass, ast.Break, ast.Continue, ast.BoolOp, ast.BinOp, ast.UnaryOp, ast.Lambda, ast.IfExp, ast.Dict,
    ast.Set, ast.ListComp, ast.comprehension, ast.Compare, ast.Call, ast.JoinedStr, ast.FormattedValue,
    ast.Constant, ast.Attribute, ast.Subscript, ast.Name, ast.List, ast.Tuple, ast.Slice, ast.keyword,
    ast.arguments, ast.arg, ast.expr_context, ast.operator, ast.unaryop, ast.boolop, ast.cmpop,
)
OUT_OPERATORS = (ast.Div, ast.MatMult)
PLAIN_TRY_BREAKERS = (ast.JoinedStr, ast.Slice, ast.Lambda, ast.Mult, ast.Pow, ast.Mod, ast.LShift, ast.RShift)


def name_of(node):
    return node.id if isinstance(node, ast.Name) else None


def called(node, names):
    return isinstance(node, ast.Call) and name_of(node.func) in names


def is_text(node):
    return isinstance(node, ast.Constant) and isinstance(node.value, str)


def is_plain(node, defs):
    """A value that may stand at a file's top."""
    if isinstance(node, ast.Constant):
        return True
    if isinstance(node, ast.UnaryOp):
        return isinstance(node.op, ast.USub) and isinstance(node.operand, ast.Constant)
    if isinstance(node, (ast.List, ast.Tuple)):
        return all(is_plain(part, defs) for part in node.elts)
    if isinstance(node, ast.Dict):
        return all(part is not None and is_plain(part, defs) for part in node.keys + node.values)
    return name_of(node) in defs


class File:
    """One file: its tree, with each node's parent, and the names that it binds."""

    def __init__(self, name, text):
        self.name = name
        self.text = text
        self.tree = ast.parse(text)
        self.nodes = list(ast.walk(self.tree))
        self.parent = {child: node for node in self.nodes for child in ast.iter_child_nodes(node)}
        self.defs = [n for n in self.nodes if isinstance(n, ast.FunctionDef)]
        self.classes = [n for n in self.nodes if isinstance(n, ast.ClassDef)]
        self.imports = [n for n in self.nodes if isinstance(n, ast.ImportFrom)]
        self.imported = [a.asname or a.name for n in self.imports for a in n.names]
        self.kept = {
            n.targets[0].id: n.value
            for n in self.tree.body
            if isinstance(n, ast.Assign) and isinstance(n.targets[0], ast.Name)
        }
        self.found = []

    def module(self):
        return PACKAGE + "." + self.name[: -len(".py")]

    def fault(self, rule, node):
        self.found.append((rule, self.name, getattr(node, "lineno", 1)))

    def of(self, kind):
        return [node for node in self.nodes if isinstance(node, kind)]


class Package:
    """What the files hold together."""

    def __init__(self, files):
        self.files = files
        self.class_names = {c.name for f in files for c in f.classes}
        self.methods = {
            d.name for f in files for d in f.defs if isinstance(f.parent[d], ast.ClassDef)
        }
        self.value_names = {
            n.attr for f in files for n in f.of(ast.Attribute) if isinstance(n.ctx, ast.Store)
        }
        self.tops = {
            f.module(): [n.name for n in f.tree.body if isinstance(n, (ast.FunctionDef, ast.ClassDef))]
            + list(f.kept)
            for f in files
        }


def check_signs(file, package):
    rows = file.text.split("\n")
    if len(file.text.splitlines()) > 400:
        file.fault("L10", None)
    for number, row in enumerate(rows, start=1):
        place = ast.Pass(lineno=number)
        if len(row) > 120 or "\t" in row:
            file.fault("L10", place)
        if any(not " " <= sign <= "~" for sign in row if sign != "\t"):
            file.fault("L14", place)
        words = re.findall(r"[A-Za-z0-9_]+", row)
        if any(word in WORDS for word in words) or any(part in row for part in WITHIN_WORDS):
            file.fault("L17", place)


def check_texts(file, package):
    for token in tokenize.generate_tokens(io.StringIO(file.text).readline):
        if tokenize.tok_name[token.type] in ("STRING", "FSTRING_MIDDLE"):
            place = ast.Pass(lineno=token.start[0])
            if any(sign not in "nt\\'\"" for sign in re.findall(r"\\(.)", token.string, re.DOTALL)):
                file.fault("L27", place)
            if "%" in token.string:
                file.fault("L27", place)
        if token.type == tokenize.NUMBER and len(token.string) > 900:
            file.fault("L27", ast.Pass(lineno=token.start[0]))
    for node in file.of((ast.BinOp, ast.AugAssign)):
        if isinstance(node.op, ast.Pow):
            power = node.right if isinstance(node, ast.BinOp) else node.value
            written = isinstance(power, ast.Constant) and isinstance(power.value, int)
            if not written or not 0 <= power.value <= 64:
                file.fault("L27", node)


def check_kinds(file, package):
    for node in file.nodes:
        if not isinstance(node, NODES) or isinstance(node, OUT_OPERATORS):
            place = node if hasattr(node, "lineno") else file.parent[node]
            file.fault("L6" if isinstance(node, ast.stmt) else "L7", place)
    for node in file.of(ast.Constant):
        if not isinstance(node.value, (int, str)) and node.value is not None and node.value is not ...:
            file.fault("L7", node)
    for node in file.of(ast.Expr):
        at_top = file.parent[node] is file.tree and node is file.tree.body[0] and is_text(node.value)
        if not at_top and not isinstance(node.value, ast.Call):
            file.fault("L6", node)
    for node in file.of((ast.For, ast.While, ast.Try)):
        if (node.orelse and not isinstance(node, ast.Try)) or getattr(node, "finalbody", []):
            file.fault("L6", node)
    for node in file.of(ast.Assign):
        if len(node.targets) != 1:
            file.fault("L6", node)
    for node in file.of(ast.ListComp):
        if len(node.generators) != 1 or len(node.generators[0].ifs) > 1:
            file.fault("L7", node)
    for node in file.of(ast.FormattedValue):
        if name_of(node.value) is None or node.conversion not in (-1, ord("r")) or node.format_spec:
            file.fault("L7", node)


def check_top(file, package):
    bound = list(file.imported)
    defs = []
    for node in file.tree.body:
        if isinstance(node, (ast.FunctionDef, ast.ClassDef)):
            bound.append(node.name)
            defs.append(node.name)
        elif isinstance(node, ast.Assign) and isinstance(node.targets[0], ast.Name):
            bound.append(node.targets[0].id)
            if not is_plain(node.value, defs):
                file.fault("L3", node)
        elif not isinstance(node, (ast.Import, ast.ImportFrom, ast.Expr)) and not is_main_row(file, node):
            file.fault("L3", node)
    if len(bound) != len(set(bound)):
        file.fault("L15", None)
    for node in file.kept.values():
        if isinstance(node, (ast.List, ast.Dict)):
            inner = [part for part in ast.walk(node) if part is not node]
            if any(isinstance(part, (ast.List, ast.Dict)) for part in inner):
                file.fault("L15", node)
    for node in file.classes:
        if file.parent[node] is not file.tree:
            file.fault("L15", node)


def is_main_row(file, node):
    return file.name == "__main__.py" and isinstance(node, ast.If) and node is file.tree.body[-1]


def check_kept(file, package):
    """Lists and dicts of a file's top are only read."""
    changeable = [name for name, value in file.kept.items() if isinstance(value, (ast.List, ast.Dict))]
    for node in file.of(ast.Name):
        if node.id in changeable and isinstance(node.ctx, ast.Load) and not is_read(file, node):
            file.fault("L15", node)


def is_read(file, node):
    parent = file.parent[node]
    if isinstance(parent, ast.Subscript):
        return isinstance(parent.ctx, ast.Load) and parent.value is node
    if isinstance(parent, (ast.For, ast.comprehension)):
        return parent.iter is node
    if isinstance(parent, ast.Attribute):
        return parent.attr in READING
    return isinstance(parent, ast.Compare) or called(parent, CALLED)


def check_imports(file, package):
    for node in file.of((ast.Import, ast.ImportFrom)):
        if file.parent[node] is not file.tree:
            file.fault("L2", node)
        if isinstance(node, ast.Import):
            if file.name != "__main__.py" or [(a.name, a.asname) for a in node.names] != [("sys", None)]:
                file.fault("L2", node)
        elif node.module != "__future__":
            check_import_row(file, package, node)


def check_import_row(file, package, node):
    module = node.module or ""
    if node.level or not module.startswith(PACKAGE + ".") or module.endswith(".__main__"):
        file.fault("L2", node)
    elif any(a.name == "*" for a in node.names):
        file.fault("L2", node)
    elif any(a.name not in package.tops.get(module, []) for a in node.names):
        file.fault("L16", node)


def check_rings(file, package):
    draws = {f.module(): [n.module for n in f.imports] for f in package.files}
    reached = []
    ahead = list(draws[file.module()])
    while ahead:
        module = ahead.pop()
        if module not in reached:
            reached.append(module)
            ahead.extend(draws.get(module, []))
    if file.module() in reached:
        file.fault("L16", None)


def check_defs(file, package):
    for node in file.defs:
        if node.decorator_list or node.args.vararg or node.args.kwarg or node.args.kwonlyargs:
            file.fault("L4", node)
        if any(not is_plain(value, []) for value in node.args.defaults):
            file.fault("L4", node)
        if node.end_lineno - node.lineno + 1 > 40:
            file.fault("L10", node)
        noted = node.returns or any(arg.annotation for arg in node.args.args)
        if noted and isinstance(file.parent[node], ast.FunctionDef):
            file.fault("L21", node)
        if node.name in OWN_METHODS:
            check_own_method(file, node)
    for node in file.of(ast.AnnAssign):
        if node.value is None or not isinstance(node.target, ast.Name):
            file.fault("L21", node)


def check_own_method(file, node):
    inner = list(ast.walk(node))
    returns = [part for part in inner if isinstance(part, ast.Return)]
    if node.name == "__init__":
        if any(part.value is not None for part in returns):
            file.fault("L28", node)
        return
    stores = [part for part in inner if isinstance(part, (ast.Attribute, ast.Subscript))]
    if any(isinstance(part.ctx, ast.Store) for part in stores):
        file.fault("L28", node)
    if any(isinstance(part, ast.AugAssign) for part in inner):
        file.fault("L28", node)
    if node.name == "__len__" and any(not is_count(part.value) for part in returns):
        file.fault("L28", node)
    if node.name in ("__repr__", "__str__") and any(not is_told_text(part.value) for part in returns):
        file.fault("L28", node)


def is_count(node):
    return called(node, ("len",)) or (isinstance(node, ast.Constant) and isinstance(node.value, int))


def is_told_text(node):
    joins = isinstance(node, ast.Call) and isinstance(node.func, ast.Attribute)
    if joins and node.func.attr == "join" and is_text(node.func.value):
        return True
    return is_text(node) or isinstance(node, ast.JoinedStr) or called(node, ("str", "repr"))


def check_classes(file, package):
    for node in file.classes:
        bases = [name_of(base) for base in node.bases]
        if node.decorator_list or node.keywords or len(bases) > 1:
            file.fault("L5", node)
        if any(base not in package.class_names and base not in ERRORS for base in bases):
            file.fault("L5", node)
        if any(base in ("StopIteration", "AttributeError") for base in bases):
            file.fault("L18", node)
        if any(not isinstance(part, (ast.FunctionDef, ast.Pass)) for part in node.body):
            file.fault("L5", node)
        names = [part.name for part in node.body if isinstance(part, ast.FunctionDef)]
        if len(names) != len(set(names)):
            file.fault("L18", node)
        if any(name.startswith("__") and name not in OWN_METHODS for name in names):
            file.fault("L5", node)
        if any(name in package.value_names for name in names):
            file.fault("L18", node)
        if any(not may_be_method(name) for name in names):
            file.fault("L26", node)
    for node in file.of(ast.Name):
        if node.id in package.class_names and isinstance(node.ctx, ast.Load) and not class_may_stand(file, node):
            file.fault("L18", node)


def may_be_method(name):
    return name in OWN_METHODS + ("add", "discard") or name in METHODS or name not in PYTHON_ATTRIBUTES


def class_may_stand(file, node):
    parent = file.parent[node]
    if isinstance(parent, ast.Tuple):
        parent = file.parent[parent]
    if isinstance(parent, ast.Call):
        return parent.func is node or called(parent, ("isinstance",))
    if isinstance(parent, ast.Attribute):
        return parent.attr == "__init__"
    return isinstance(parent, (ast.ClassDef, ast.ExceptHandler, ast.Raise, ast.arg, ast.AnnAssign, ast.FunctionDef))


def check_names(file, package):
    for node, name in names_in(file):
        plain = re.fullmatch(r"[A-Za-z][A-Za-z0-9_]*", name)
        if not plain and name not in DUNDERS:
            file.fault("L12", node)
        if name in NEVER:
            file.fault("L17", node)
    for node in file.of(ast.Name):
        if node.id in NOT_NAMES or (node.id in ("sys", "__name__") and file.name != "__main__.py"):
            file.fault("L17", node)
        elif node.id == "chr":
            file.fault("L27", node)
        elif node.id in dir(builtins) and node.id not in CALLED + ERRORS:
            if (file.name, node.id) not in (("__main__.py", "print"), ("__main__.py", "__name__")):
                file.fault("L8", node)


def names_in(file):
    for node in file.nodes:
        if isinstance(node, ast.Name):
            yield node, node.id
        elif isinstance(node, ast.Attribute):
            yield node, node.attr
        elif isinstance(node, (ast.FunctionDef, ast.ClassDef)):
            yield node, node.name
        elif isinstance(node, (ast.arg, ast.keyword)):
            yield node, node.arg or "**"
        elif isinstance(node, ast.ExceptHandler) and node.name:
            yield node, node.name
        elif isinstance(node, ast.alias) and node.asname:
            yield node, node.asname


def check_locals(file, package):
    taken = [c.name for c in file.classes] + file.imported + dir(builtins)
    for node in file.of(ast.arg):
        if node.arg in taken:
            file.fault("L15", node)
    for node in file.of(ast.Name):
        if isinstance(node.ctx, ast.Store) and node.id in taken:
            file.fault("L15", node)
    for node in file.of(ast.ExceptHandler):
        if node.name in taken:
            file.fault("L15", node)
    for node in file.of((ast.FunctionDef, ast.ClassDef)):
        inner = isinstance(file.parent[node], ast.ClassDef)
        if not inner and node.name in dir(builtins):
            file.fault("L8", node)


def check_attributes(file, package):
    for node in file.of(ast.Attribute):
        parent = file.parent[node]
        if isinstance(node.ctx, ast.Store):
            if node.attr in PYTHON_ATTRIBUTES and node.attr not in VALUE_NAMES or node.attr == "args":
                file.fault("L26", node)
            if name_of(node.value) in package.class_names or name_of(node.value) in file.kept:
                file.fault("L18", node)
        elif isinstance(parent, ast.Call) and parent.func is node:
            own = node.attr in package.methods or node.attr == "__init__"
            if not own and node.attr not in METHODS:
                file.fault("L25", node)
        elif node.attr not in package.value_names and not is_key(parent):
            file.fault("L25", node)


def is_key(node):
    return isinstance(node, ast.keyword) and node.arg == "key"


def check_calls(file, package):
    for node in file.of(ast.Call):
        name = name_of(node.func)
        method = node.func.attr if isinstance(node.func, ast.Attribute) else None
        if any(isinstance(arg, ast.Starred) for arg in node.args):
            file.fault("L7", node)
        if name in CALLED or name in ERRORS or method in METHODS:
            if any(word.arg not in KEYWORDS.get(name, ()) for word in node.keywords):
                file.fault("L22", node)
        for word in node.keywords:
            if word.arg in ("reverse", "strict") and not isinstance(word.value, ast.Constant):
                file.fault("L22", node)
    for node in file.of(ast.Name):
        if node.id in CALLED and isinstance(node.ctx, ast.Load) and not may_be_kept(file, node):
            file.fault("L22", node)


def may_be_kept(file, node):
    parent = file.parent[node]
    if isinstance(parent, ast.Tuple):
        parent = file.parent[parent]
    if isinstance(parent, ast.Call) and parent.func is node:
        return True
    if is_key(parent):
        return node.id in KEPT_AS_KEY
    if called(parent, ("isinstance",)):
        return node.id in CHECKED_BY_ISINSTANCE
    return isinstance(parent, (ast.arg, ast.AnnAssign, ast.FunctionDef))


def is_walk(node):
    if called(node, WALKED):
        return True
    method = isinstance(node, ast.Call) and isinstance(node.func, ast.Attribute)
    return method and node.func.attr in WALKED_METHODS


def check_walks(file, package):
    for node in file.of(ast.Call):
        if is_walk(node) and not walked_at_once(file, node):
            file.fault("L23", node)
    for node in file.of(ast.For):
        walked = [ast.dump(part) for part in walked_in(node.iter)]
        if any(ast.dump(part) in walked for part in changed_in(node.body)):
            file.fault("L23", node)


def walked_at_once(file, node):
    parent = file.parent[node]
    if isinstance(parent, (ast.For, ast.comprehension)):
        return parent.iter is node
    if not isinstance(parent, ast.Call) or node not in parent.args:
        return False
    if isinstance(parent.func, ast.Attribute):
        return parent.func.attr == "join" and is_text(parent.func.value)
    if called(parent, ("min", "max")):
        return len(parent.args) == 1
    return called(parent, WALKERS) and parent.args[0] is node


def walked_in(node):
    if called(node, ("zip", "enumerate", "reversed")):
        return [part for arg in node.args for part in walked_in(arg)]
    if is_walk(node) and isinstance(node.func, ast.Attribute):
        return [node.func.value]
    return [node]


def changed_in(body):
    for part in [inner for row in body for inner in ast.walk(row)]:
        if isinstance(part, ast.Subscript) and isinstance(part.ctx, ast.Store):
            yield part.value
        method = isinstance(part, ast.Call) and isinstance(part.func, ast.Attribute)
        if method and part.func.attr in CHANGING:
            yield part.func.value


def check_sets(file, package):
    for node in file.nodes:
        if (isinstance(node, ast.Set) or called(node, ("set", "frozenset"))) and not set_may_stand(file, node):
            file.fault("L24", node)
        if isinstance(node, ast.Set) and len(node.elts) > 2 and not isinstance(file.parent[node], ast.Compare):
            file.fault("L13", node)
    rows = [(node.lineno, ast.dump(node.args)) for node in file.of(ast.Lambda)]
    if len(rows) != len(set(rows)):
        file.fault("L13", None)


def set_may_stand(file, node):
    parent = file.parent[node]
    while isinstance(parent, ast.BinOp):
        parent = file.parent[parent]
    if isinstance(parent, ast.Compare):
        return all(isinstance(op, (ast.In, ast.NotIn, ast.Eq, ast.NotEq)) for op in parent.ops)
    return called(parent, ("sorted", "len")) and not parent.keywords


def check_errors(file, package):
    for node in file.of(ast.Raise):
        if not isinstance(node.exc, ast.Call):
            file.fault("L19", node)
    for node in file.of(ast.Try):
        for handler in node.handlers:
            check_handler(file, package, node, handler)


def check_handler(file, package, node, handler):
    taken = handler.type.elts if isinstance(handler.type, ast.Tuple) else [handler.type]
    names = [name_of(part) for part in taken]
    plain = ("KeyError", "ZeroDivisionError", "StopIteration")
    careful = ("ValueError", "LookupError", "IndexError")
    if any(name not in package.class_names and name not in plain + careful for name in names):
        file.fault("L19", handler)
    if any(name in careful for name in names):
        inner = [part for row in node.body for part in ast.walk(row)]
        if any(isinstance(part, PLAIN_TRY_BREAKERS) or strange_call(part, names) for part in inner):
            file.fault("L19", handler)


def strange_call(node, names):
    if not isinstance(node, ast.Call):
        return False
    if "IndexError" in names:
        return True
    if isinstance(node.func, ast.Attribute):
        return node.func.attr not in ("index", "remove")
    return name_of(node.func) not in ("int", "str")


def check_is(file, package):
    for node in file.of(ast.Compare):
        sides = [node.left] + node.comparators
        for place, op in enumerate(node.ops):
            if isinstance(op, (ast.Is, ast.IsNot)):
                pair = [part.value for part in sides[place : place + 2] if isinstance(part, ast.Constant)]
                if not any(value is None or value is True or value is False for value in pair):
                    file.fault("L20", node)


CHECKS = (
    check_signs, check_texts, check_kinds, check_top, check_kept, check_imports, check_rings, check_defs,
    check_classes, check_names, check_locals, check_attributes, check_calls, check_walks, check_sets,
    check_errors, check_is,
)


def name_faults(names):
    found = []
    for name in names:
        stem = name[: -len(".py")]
        if not re.fullmatch(r"[A-Za-z0-9_]+\.py", name):
            found.append(("L1", name, 1))
        elif name != name.lower() or stem in FILES_NOT_USED + WORDS or stem.startswith("test_"):
            found.append(("L14", name, 1))
        elif stem in dir(builtins):
            found.append(("L14", name, 1))
    if "__init__.py" not in names:
        found.append(("L14", "__init__.py", 1))
    return found


def faults(sources):
    found = name_faults(list(sources))
    files = [File(name, text) for name, text in sources.items() if name.endswith(".py")]
    package = Package(files)
    for file in files:
        for check in CHECKS:
            check(file, package)
        found.extend(file.found)
    return sorted(set(found))
