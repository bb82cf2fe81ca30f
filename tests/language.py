"""Finds what in the package's files lies outside the part of Python that the program keeps to.

It sees the shape of the code alone, and where a rule allows a rare form it may be
narrower than the rule: no annotations, no sets, no ValueError taken from Python's own.
A fault is a tuple (rule, file, line).
"""

import ast
import builtins
import re

PACKAGE = "gatebook"
ERRORS = (
    "Exception ValueError TypeError KeyError IndexError LookupError ZeroDivisionError ArithmeticError "
    "OverflowError RuntimeError NotImplementedError AttributeError StopIteration"
).split()
CALLED = (
    "len range enumerate zip min max sum abs sorted reversed int str bool list tuple dict isinstance ord "
    "repr any all divmod"
).split()
METHODS = (
    "append clear copy count endswith extend find get index insert isalnum isalpha isdigit islower isspace "
    "isupper items join keys ljust lower lstrip partition pop remove replace reverse rfind rjust rpartition "
    "rsplit rstrip setdefault split splitlines startswith strip update upper values zfill bit_length"
).split()
CHANGING = "append clear extend insert pop remove reverse setdefault update".split()
OWN_VALUES = set(dir("") + dir(0) + dir([]) + dir({}) + dir(set()) + dir(b"") + ["args"])
OBJECT_VALUES = "count index title find get join lower upper split strip copy add".split()
UNDERSCORED = ("__init__", "__eq__", "__repr__", "__str__", "__len__")
WALKED = ("zip", "enumerate", "reversed", "range")
WALKED_METHODS = ("items", "keys", "values")
WALKERS = ("list", "tuple", "dict", "sorted", "sum", "any", "all", "enumerate", "zip", "min", "max")
KEYWORDS = {
    "sorted": ("key", "reverse"),
    "min": ("key", "default"),
    "max": ("key", "default"),
    "sum": ("start",),
    "enumerate": ("start",),
    "zip": ("strict",),
}
UNUSED = (
    "register mro elements open input version_info with_traceback add_note attrgetter breakpoint builtins "
    "compile copyright credits delattr dir eval exec exit gc getattr globals hasattr help id importlib "
    "license locals methodcaller os quit setattr super type vars"
).split()
UNSPOKEN = re.compile(
    r"\b(type|typing|typing_extensions|enum|Enum|IntEnum|StrEnum|Flag|IntFlag|Generic|Protocol|ABC|ABCMeta"
    r"|namedtuple|NamedTuple|TypedDict|TYPE_CHECKING|abstractmethod)\b|dataclass|overload|contextmanager"
)
FILE_NAME = re.compile(r"[a-z][a-z0-9_]*\.py|__init__\.py|__main__\.py")
FILE_NAMES_OUT = "test tests testing site conftest sitecustomize usercustomize".split()
PLAIN_NAME = re.compile(r"[A-Za-z][A-Za-z0-9_]*")
STATEMENTS = (
    ast.Assign, ast.AugAssign, ast.If, ast.While, ast.For, ast.Return, ast.Break, ast.Continue, ast.Pass,
    ast.Raise, ast.Try, ast.Expr, ast.FunctionDef, ast.ClassDef, ast.ImportFrom, ast.Import,
)
EXPRESSIONS = (
    ast.Constant, ast.Name, ast.List, ast.Tuple, ast.Dict, ast.BinOp, ast.UnaryOp, ast.BoolOp, ast.Compare,
    ast.IfExp, ast.Call, ast.Attribute, ast.Subscript, ast.Slice, ast.ListComp, ast.JoinedStr,
    ast.FormattedValue, ast.Lambda,
)


class File:
    def __init__(self, name, text):
        self.name = name
        self.text = text
        self.tree = ast.parse(text)
        self.nodes = list(ast.walk(self.tree))
        self.above = {child: node for node in self.nodes for child in ast.iter_child_nodes(node)}
        self.faults = []

    def fault(self, rule, node=None, line=0):
        self.faults.append((rule, self.name, node.lineno if node is not None else line))

    def of_kind(self, *kinds):
        return [node for node in self.nodes if isinstance(node, kinds)]


def faults(texts):
    """All faults of a package, handed in as a dict of each file's name and text."""
    files = [File(name, text) for name, text in sorted(texts.items())]
    check_file_names(texts, files)
    methods = own_methods(files)
    for file in files:
        check_signs_and_size(file)
        check_shapes(file)
        check_top(file)
        check_imports(file, files)
        check_functions(file)
        check_classes(file)
        check_names(file)
        check_calls(file, methods)
        check_values(file)
        check_walks(file)
        check_errors(file)
        check_objects(file, methods)
    check_circles_of_imports(files)
    return [fault for file in files for fault in file.faults]


def own_methods(files):
    classes = [node for file in files for node in file.of_kind(ast.ClassDef)]
    return [part.name for node in classes for part in node.body if isinstance(part, ast.FunctionDef)]


def check_file_names(texts, files):
    for file in files:
        stem = file.name.rpartition(".")[0]
        out = stem in FILE_NAMES_OUT or stem.startswith("test_") or stem in dir(builtins)
        if not FILE_NAME.fullmatch(file.name) or out or UNSPOKEN.search(stem):
            file.fault("L14")
    if files and "__init__.py" not in texts:
        files[0].fault("L14")


def check_signs_and_size(file):
    lines = file.text.split("\n")
    if len(lines) - 1 > 400:
        file.fault("L10", line=401)
    for number, line in enumerate(lines, start=1):
        if len(line) > 120:
            file.fault("L10", line=number)
        if not all(" " <= sign <= "~" for sign in line):
            file.fault("L14", line=number)
        if UNSPOKEN.search(line):
            file.fault("L17", line=number)


def check_shapes(file):
    for node in file.of_kind(ast.stmt):
        if not isinstance(node, STATEMENTS):
            file.fault("L6", node)
    for node in file.of_kind(ast.expr):
        if not isinstance(node, EXPRESSIONS):
            file.fault("L7", node)
    for node in file.of_kind(ast.For, ast.While):
        if node.orelse:
            file.fault("L6", node)
    for node in file.of_kind(ast.Assign):
        if len(node.targets) > 1:
            file.fault("L6", node)
    for node in file.of_kind(ast.Expr):
        if not isinstance(node.value, ast.Call) and node is not file.tree.body[0]:
            file.fault("L6", node)
    for node in file.of_kind(ast.ListComp):
        if len(node.generators) > 1 or len(node.generators[0].ifs) > 1:
            file.fault("L7", node)


def check_top(file):
    bound = []
    for at, node in enumerate(file.tree.body):
        if isinstance(node, (ast.FunctionDef, ast.ClassDef)):
            bound.append(node.name)
        elif isinstance(node, ast.ImportFrom):
            bound.extend(alias.asname or alias.name for alias in node.names)
        elif isinstance(node, ast.Assign):
            bound.extend(part.id for part in ast.walk(node.targets[0]) if isinstance(part, ast.Name))
            check_top_value(file, node)
        elif not is_docstring(node, at) and file.name != "__main__.py":
            file.fault("L3", node)
    for name in bound:
        if bound.count(name) > 1:
            file.fault("L15", file.tree.body[0])


def is_docstring(node, at):
    return at == 0 and isinstance(node, ast.Expr) and isinstance(node.value, ast.Constant)


def check_top_value(file, node):
    plain = (ast.Constant, ast.List, ast.Tuple, ast.Dict, ast.Name, ast.UnaryOp, ast.USub, ast.Load)
    for part in ast.walk(node.value):
        if not isinstance(part, plain):
            file.fault("L3", node)
        if isinstance(part, (ast.List, ast.Dict)) and part is not node.value:
            file.fault("L15", node)
    if not isinstance(node.value, (ast.List, ast.Dict)) or not isinstance(node.targets[0], ast.Name):
        return
    for use in file.of_kind(ast.Name):
        if use.id == node.targets[0].id and isinstance(use.ctx, ast.Load) and changes(file, use):
            file.fault("L15", use)


def changes(file, use):
    above = file.above[use]
    if isinstance(above, ast.Attribute):
        return above.attr in CHANGING
    if isinstance(above, ast.Subscript):
        return isinstance(above.ctx, ast.Store)
    return isinstance(above, (ast.Return, ast.Assign))


def check_imports(file, files):
    defined = {other.name: names_defined(other) for other in files}
    for node in file.of_kind(ast.Import):
        if file.name != "__main__.py" or [alias.name for alias in node.names] != ["sys"]:
            file.fault("L2", node)
    for node in file.of_kind(ast.ImportFrom):
        if node.module == "__future__":
            continue
        source = drawn_from(node)
        if node not in file.tree.body or source not in defined or source == "__main__.py":
            file.fault("L2", node)
            continue
        for alias in node.names:
            if alias.name not in defined[source]:
                file.fault("L2" if alias.name == "*" else "L16", node)


def names_defined(file):
    names = [node.name for node in file.tree.body if isinstance(node, (ast.FunctionDef, ast.ClassDef))]
    for node in file.tree.body:
        if isinstance(node, ast.Assign) and isinstance(node.targets[0], ast.Name):
            names.append(node.targets[0].id)
    return names


def drawn_from(node):
    if node.level or not (node.module or "").startswith(PACKAGE + "."):
        return None
    return node.module[len(PACKAGE) + 1:] + ".py"


def check_circles_of_imports(files):
    draws = {file.name: {"__init__.py"} if file.of_kind(ast.ImportFrom) else set() for file in files}
    for file in files:
        draws[file.name] |= {drawn_from(node) for node in file.of_kind(ast.ImportFrom)}
    for file in files:
        reached = set()
        for _ in files:
            around = reached | {file.name}
            reached |= {source for name in around for source in draws.get(name, ())}
        if file.name in reached:
            file.fault("L16", file.tree.body[0])


def check_functions(file):
    for node in file.of_kind(ast.FunctionDef, ast.Lambda):
        told = node.args
        if told.vararg or told.kwarg or told.kwonlyargs or told.posonlyargs:
            file.fault("L4", node)
        if not all(isinstance(value, (ast.Constant, ast.UnaryOp)) for value in told.defaults):
            file.fault("L4", node)
        if any(argument.annotation for argument in told.args):
            file.fault("L21", node)
    for node in file.of_kind(ast.FunctionDef):
        if node.decorator_list:
            file.fault("L4", node)
        if node.returns:
            file.fault("L21", node)
        if node.end_lineno - node.lineno + 1 > 40:
            file.fault("L10", node)
    lambdas = [(node.lineno, ast.dump(node.args)) for node in file.of_kind(ast.Lambda)]
    for node in file.of_kind(ast.Lambda):
        if lambdas.count((node.lineno, ast.dump(node.args))) > 1:
            file.fault("L13", node)


def check_classes(file):
    for node in file.of_kind(ast.ClassDef):
        if node not in file.tree.body:
            file.fault("L15", node)
        if len(node.bases) > 1 or node.keywords or node.decorator_list:
            file.fault("L5", node)
        if any(isinstance(base, ast.Name) and base.id in ("StopIteration", "AttributeError") for base in node.bases):
            file.fault("L18", node)
        for part in node.body:
            if not isinstance(part, (ast.FunctionDef, ast.Pass)):
                file.fault("L5", part)
        names = [part.name for part in node.body if isinstance(part, ast.FunctionDef)]
        if len(set(names)) < len(names):
            file.fault("L18", node)


def bound_names(file):
    """Each name that is given a meaning, with where."""
    for node in file.nodes:
        if isinstance(node, ast.Name) and isinstance(node.ctx, ast.Store):
            yield node.id, node
        if isinstance(node, ast.arg):
            yield node.arg, node
        if isinstance(node, (ast.FunctionDef, ast.ClassDef)):
            yield node.name, node
        if isinstance(node, ast.ExceptHandler) and node.name:
            yield node.name, node
        if isinstance(node, ast.ImportFrom):
            for alias in node.names:
                yield alias.asname or alias.name, node


def names_of_top(file):
    """The classes and imports of a file, which no local may be called like."""
    names = [node.name for node in file.tree.body if isinstance(node, ast.ClassDef)]
    for node in file.tree.body:
        if isinstance(node, ast.ImportFrom):
            names.extend(alias.asname or alias.name for alias in node.names)
    return names


def check_names(file):
    bound = []
    for node in file.of_kind(ast.arg, ast.Name):
        name = node.arg if isinstance(node, ast.arg) else node.id
        given = isinstance(node, ast.arg) or isinstance(node.ctx, ast.Store)
        if given and name in names_of_top(file):
            file.fault("L15", node)
    for name, node in bound_names(file):
        bound.append(name)
        method = isinstance(file.above.get(node), ast.ClassDef)
        if not PLAIN_NAME.fullmatch(name) and not (method and name in UNDERSCORED):
            file.fault("L12", node)
        if name in dir(builtins) and not method:
            file.fault("L15", node)
        if name in UNUSED:
            file.fault("L17", node)
    for node in file.of_kind(ast.Name):
        if node.id not in bound and node.id not in CALLED + ERRORS and not main_only(file, node.id):
            file.fault("L8", node)
        if node.id in CALLED and not called_or_told(file, node):
            file.fault("L22", node)
    for node in file.of_kind(ast.Attribute):
        if not PLAIN_NAME.fullmatch(node.attr) and node.attr != "__init__":
            file.fault("L12", node)
        if node.attr in UNUSED or node.attr in ("format", "format_map"):
            file.fault("L17", node)


def main_only(file, name):
    return file.name == "__main__.py" and name in ("sys", "print", "__name__")


def called_or_told(file, node):
    above = file.above[node]
    if isinstance(above, ast.keyword):
        return above.arg == "key"
    if isinstance(above, ast.Tuple):
        above = file.above[above]
    return isinstance(above, ast.Call) and (above.func is node or is_named(above.func, "isinstance"))


def is_named(node, *names):
    return isinstance(node, ast.Name) and node.id in names


def check_calls(file, methods):
    for node in file.of_kind(ast.Call):
        if isinstance(node.func, ast.Attribute) and node.func.attr not in METHODS + methods + ["__init__"]:
            file.fault("L25", node)
        if isinstance(node.func, ast.Name) and node.func.id in CALLED:
            allowed = KEYWORDS.get(node.func.id, ())
        else:
            allowed = [keyword.arg for keyword in node.keywords]
        for keyword in node.keywords:
            if keyword.arg not in allowed or keyword.arg is None:
                file.fault("L22", node)
    for node in file.of_kind(ast.Attribute):
        above = file.above[node]
        handed_on = not (isinstance(above, ast.Call) and above.func is node)
        if node.attr in METHODS and handed_on and isinstance(node.ctx, ast.Load):
            file.fault("L25", node)


def check_values(file):
    for node in file.of_kind(ast.Constant):
        if node.value is not None and not isinstance(node.value, (int, str)):
            file.fault("L7", node)
        if isinstance(node.value, str) and "%" in node.value:
            file.fault("L27", node)
    for node in file.of_kind(ast.BinOp, ast.AugAssign):
        if isinstance(node.op, (ast.Div, ast.MatMult)):
            file.fault("L7", node)
        if isinstance(node.op, ast.Pow):
            power = node.right if isinstance(node, ast.BinOp) else node.value
            if not isinstance(power, ast.Constant) or power.value not in range(65):
                file.fault("L27", node)
    for node in file.of_kind(ast.FormattedValue):
        if not isinstance(node.value, ast.Name) or node.format_spec or node.conversion not in (-1, ord("r")):
            file.fault("L7", node)
    for node in file.of_kind(ast.Compare):
        sides = [node.left] + node.comparators
        named = any(isinstance(side, ast.Constant) and side.value in (None, True, False) for side in sides)
        if any(isinstance(sign, (ast.Is, ast.IsNot)) for sign in node.ops) and not named:
            file.fault("L20", node)


def check_walks(file):
    for node in file.of_kind(ast.Call):
        kept = is_named(node.func, *WALKED)
        kept = kept or isinstance(node.func, ast.Attribute) and node.func.attr in WALKED_METHODS
        if kept and not walked_at_once(file, node):
            file.fault("L23", node)
    for loop in file.of_kind(ast.For):
        walked = ast.dump(walked_value(loop.iter))
        for node in [part for row in loop.body for part in ast.walk(row)]:
            if changed_value(node) is not None and ast.dump(changed_value(node)) == walked:
                file.fault("L23", node)


def walked_at_once(file, node):
    above = file.above[node]
    if isinstance(above, (ast.For, ast.comprehension)):
        return above.iter is node
    if not isinstance(above, ast.Call):
        return False
    if isinstance(above.func, ast.Attribute):
        return above.func.attr == "join" and isinstance(above.func.value, ast.Constant)
    return is_named(above.func, *WALKERS) and node in above.args


def walked_value(node):
    while isinstance(node, ast.Call) and is_named(node.func, "zip", "enumerate", "reversed") and node.args:
        node = node.args[0]
    if isinstance(node, ast.Call) and isinstance(node.func, ast.Attribute) and node.func.attr in WALKED_METHODS:
        node = node.func.value
    return node


def changed_value(node):
    if isinstance(node, ast.Call) and isinstance(node.func, ast.Attribute) and node.func.attr in CHANGING:
        return node.func.value
    if isinstance(node, ast.Subscript) and isinstance(node.ctx, ast.Store):
        return node.value
    return None


def check_errors(file):
    own = ("KeyError", "ZeroDivisionError", "StopIteration")
    for node in file.of_kind(ast.Try):
        if node.finalbody:
            file.fault("L6", node)
    for node in file.of_kind(ast.ExceptHandler):
        taken = node.type.elts if isinstance(node.type, ast.Tuple) else [node.type]
        for name in taken:
            if not isinstance(name, ast.Name) or name.id in ERRORS and name.id not in own:
                file.fault("L19", node)
    for node in file.of_kind(ast.Raise):
        if not isinstance(node.exc, ast.Call):
            file.fault("L19", node)


def check_objects(file, methods):
    for node in file.of_kind(ast.Attribute):
        if not isinstance(node.ctx, ast.Store):
            continue
        if node.attr in methods:
            file.fault("L18", node)
        if node.attr in OWN_VALUES and node.attr not in OBJECT_VALUES:
            file.fault("L26", node)
    for owner in file.of_kind(ast.ClassDef):
        for part in owner.body:
            if isinstance(part, ast.FunctionDef):
                check_method(file, part)


def check_method(file, method):
    allowed = METHODS + list(UNDERSCORED) + ["add", "discard"]
    if method.name in OWN_VALUES and method.name not in allowed:
        file.fault("L26", method)
    if method.name == "__init__" and any(isinstance(part, ast.Return) for part in ast.walk(method)):
        file.fault("L28", method)
