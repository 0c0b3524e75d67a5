"""Some of the rules of LANGUAGE.md, by their numbers: not L9, L11, L13, L22 to L24, L28, and others only in part."""

import ast
import builtins
import re

PACKAGE = "singlenet"
STATEMENTS = (ast.FunctionDef, ast.ClassDef, ast.Assign, ast.AugAssign, ast.If, ast.While, ast.For, ast.Return,
              ast.Break, ast.Continue, ast.Pass, ast.Raise, ast.Try, ast.Expr, ast.ImportFrom)
EXPRESSIONS = (ast.Constant, ast.List, ast.Tuple, ast.Dict, ast.Set, ast.BinOp, ast.UnaryOp, ast.Compare, ast.BoolOp,
               ast.IfExp, ast.Call, ast.Attribute, ast.Subscript, ast.Slice, ast.ListComp, ast.JoinedStr,
               ast.FormattedValue, ast.Name, ast.Lambda)
ERRORS = """Exception ValueError TypeError KeyError IndexError LookupError ZeroDivisionError ArithmeticError
    OverflowError RuntimeError NotImplementedError AttributeError StopIteration""".split()
PYTHONS_OWN = """len range enumerate zip min max sum abs sorted reversed int str bool list tuple dict set frozenset
    isinstance ord repr any all divmod""".split() + ERRORS
METHODS = """append clear copy count endswith extend find get index insert isalnum isalpha isdigit islower isspace
    isupper items join keys ljust lower lstrip partition pop remove replace reverse rfind rjust rpartition rsplit
    rstrip setdefault split splitlines startswith strip update upper values zfill bit_length""".split()
UNDERSCORED = "__init__ __eq__ __repr__ __str__ __len__".split()
NOWHERE_NAMED = "register mro elements open input version_info with_traceback add_note format format_map".split()
NO_NAMES = """attrgetter breakpoint builtins compile copyright credits delattr dir eval exec exit gc getattr globals
    hasattr help id importlib license locals methodcaller os quit setattr super type vars sys""".split()
NO_WORDS = """type typing typing_extensions enum Enum IntEnum StrEnum Flag IntFlag Generic Protocol ABC ABCMeta
    namedtuple NamedTuple TypedDict TYPE_CHECKING abstractmethod""".split()
NO_PARTS = ("dataclass", "overload", "contextmanager")
NO_FILES = "test tests testing site conftest sitecustomize usercustomize".split() + NO_WORDS
TAKEN = [name for kind in (str, int, list, dict, set, bytes) for name in vars(kind)]
MAY_BE_METHODS = METHODS + ["add", "discard"]
MAY_BE_VALUES = "count index title find get join lower upper split strip copy add".split()


class File:

    def __init__(self, name, source):
        self.name = name
        self.source = source
        self.tree = ast.parse(source)
        self.defined = [node.name for node in self.tree.body if isinstance(node, (ast.FunctionDef, ast.ClassDef))]
        self.given = [node.targets[0].id for node in self.tree.body if isinstance(node, ast.Assign)]
        self.drawn = [alias.name for node in self.tree.body if isinstance(node, ast.ImportFrom)
                      for alias in node.names]
        self.classes = [node.name for node in self.tree.body if isinstance(node, ast.ClassDef)]


def faults(sources):
    files = [File(name, source) for name, source in sorted(sources.items())]
    found = []
    for file in files:
        for check in (file_name, signs, imports, top, statements, functions, classes, expressions, names, texts):
            found += ["%s: %s" % (file.name, fault) for fault in check(file)]
    return found + drawn_in_a_ring(files) + drawn_from_elsewhere(files) + own_names(files)


def at(rule, node):
    return "%s at line %d" % (rule, node.lineno)


def file_name(file):
    if file.name == "__init__":
        return []
    if not re.fullmatch("[a-z][a-z0-9_]*", file.name) or file.name.startswith("test_"):
        return ["L14 name"]
    return ["L14 name"] if file.name in NO_FILES or file.name in dir(builtins) else []


def signs(file):
    lines = file.source.split("\n")
    found = ["L10 file"] if len(lines) > 401 else []
    for number, line in enumerate(lines, 1):
        if len(line) > 120:
            found.append("L10 at line %d" % number)
        if not all(" " <= sign <= "~" for sign in line):
            found.append("L14 at line %d" % number)
        if any(word in NO_WORDS for word in re.findall("[A-Za-z0-9_]+", line)):
            found.append("L17 at line %d" % number)
        if any(part in line for part in NO_PARTS):
            found.append("L17 at line %d" % number)
    return found


def imports(file):
    found = []
    for node in ast.walk(file.tree):
        if isinstance(node, ast.Import):
            found.append(at("L16", node))
        if isinstance(node, ast.ImportFrom):
            if node not in file.tree.body or node.level or not node.module.startswith(PACKAGE + "."):
                found.append(at("L2", node))
            if any(alias.asname or alias.name == "*" for alias in node.names):
                found.append(at("L2", node))
    return found


def drawn_from_elsewhere(files):
    there = {PACKAGE + "." + file.name: file.defined + file.given for file in files}
    return ["%s: %s" % (file.name, at("L16", node)) for file in files for node in file.tree.body
            if isinstance(node, ast.ImportFrom) for alias in node.names
            if alias.name not in there.get(node.module, [])]


def drawn_in_a_ring(files):
    draws = {file.name: {node.module.split(".")[-1] for node in file.tree.body if isinstance(node, ast.ImportFrom)}
             for file in files}
    for name in draws:
        if name != "__init__":
            draws[name].add("__init__")
    for _ in files:
        for name in draws:
            for other in list(draws[name]):
                draws[name] |= draws.get(other, set())
    return ["%s: L16 ring" % name for name in draws if name in draws[name]]


def is_plain(node):
    if isinstance(node, ast.UnaryOp):
        return isinstance(node.op, ast.USub) and is_plain(node.operand)
    if isinstance(node, (ast.List, ast.Tuple)):
        return all(is_plain(part) for part in node.elts)
    if isinstance(node, ast.Dict):
        return all(is_plain(part) for part in node.keys + node.values)
    return isinstance(node, (ast.Constant, ast.Name))


def top(file):
    found = []
    bound = file.defined + file.given + file.drawn
    if len(bound) != len(set(bound)):
        found.append("L15 bound twice")
    for number, node in enumerate(file.tree.body):
        docstring = number == 0 and isinstance(node, ast.Expr) and isinstance(node.value, ast.Constant)
        plain = isinstance(node, ast.Assign) and is_plain(node.value)
        if not docstring and not plain and not isinstance(node, (ast.ImportFrom, ast.FunctionDef, ast.ClassDef)):
            found.append(at("L3", node))
    return found


def statements(file):
    found = []
    for node in ast.walk(file.tree):
        if isinstance(node, ast.stmt) and not isinstance(node, STATEMENTS):
            found.append(at("L6", node))
        if isinstance(node, ast.Assign) and len(node.targets) != 1:
            found.append(at("L6", node))
        if isinstance(node, ast.Expr) and node not in file.tree.body and not isinstance(node.value, ast.Call):
            found.append(at("L6", node))
        if isinstance(node, (ast.While, ast.For)) and node.orelse:
            found.append(at("L6", node))
        if isinstance(node, ast.Try) and (node.finalbody or any(taken.type is None for taken in node.handlers)):
            found.append(at("L6", node))
        if isinstance(node, ast.ExceptHandler) and ast.unparse(node.type) in ("Exception", "TypeError"):
            found.append(at("L19", node))
    return found


def functions(file):
    found = []
    for node in ast.walk(file.tree):
        if not isinstance(node, ast.FunctionDef):
            continue
        a = node.args
        if a.vararg or a.kwarg or a.kwonlyargs or a.posonlyargs or node.decorator_list:
            found.append(at("L4", node))
        if not all(is_plain(value) for value in a.defaults):
            found.append(at("L4", node))
        if node.end_lineno - node.lineno + 1 > 40:
            found.append(at("L10", node))
        if node.returns or any(arg.annotation for arg in a.args):
            found.append(at("L21", node))
    return found


def classes(file):
    found = []
    for node in ast.walk(file.tree):
        if not isinstance(node, ast.ClassDef):
            continue
        methods = [part.name for part in node.body if isinstance(part, ast.FunctionDef)]
        if not all(isinstance(part, (ast.FunctionDef, ast.Pass)) for part in node.body) or len(node.bases) > 1:
            found.append(at("L5", node))
        if node.decorator_list or node.keywords or node not in file.tree.body:
            found.append(at("L5", node))
        if len(methods) != len(set(methods)):
            found.append(at("L18", node))
    return found


def expressions(file):
    found = []
    for node in ast.walk(file.tree):
        if isinstance(node, ast.expr) and not isinstance(node, EXPRESSIONS):
            found.append(at("L7", node))
        if isinstance(node, ast.Constant) and not isinstance(node.value, (int, str, bool)) and node.value is not None:
            found.append(at("L7", node))
        if isinstance(node, (ast.BinOp, ast.AugAssign)) and isinstance(node.op, (ast.Div, ast.MatMult)):
            found.append(at("L7", node))
        if isinstance(node, (ast.BinOp, ast.AugAssign)) and isinstance(node.op, ast.Pow):
            found.append(at("L27", node))
        if isinstance(node, ast.ListComp) and (len(node.generators) != 1 or len(node.generators[0].ifs) > 1):
            found.append(at("L7", node))
        if isinstance(node, ast.FormattedValue) and (not isinstance(node.value, ast.Name) or node.format_spec):
            found.append(at("L7", node))
        if isinstance(node, ast.Compare) and any(isinstance(op, (ast.Is, ast.IsNot)) for op in node.ops):
            if not all(isinstance(side, ast.Constant) for side in node.comparators):
                found.append(at("L20", node))
    return found


def bound_names(file):
    for node in ast.walk(file.tree):
        if isinstance(node, ast.arg):
            yield node, node.arg
        if isinstance(node, ast.Name) and isinstance(node.ctx, ast.Store):
            yield node, node.id
        if isinstance(node, (ast.FunctionDef, ast.ClassDef)):
            yield node, node.name
        if isinstance(node, ast.ExceptHandler) and node.name:
            yield node, node.name


def names(file):
    found = []
    for node, name in bound_names(file):
        if not re.fullmatch("[A-Za-z][A-Za-z0-9_]*", name) and name not in UNDERSCORED:
            found.append(at("L12", node))
        if name in NOWHERE_NAMED + NO_NAMES:
            found.append(at("L17", node))
        if name in dir(builtins) or (not isinstance(node, ast.ClassDef) and name in file.classes + file.drawn):
            found.append(at("L15", node))
    for node in ast.walk(file.tree):
        if isinstance(node, ast.Name) and node.id in dir(builtins) and node.id not in PYTHONS_OWN:
            found.append(at("L8", node))
        if isinstance(node, ast.Attribute) and (node.attr in NOWHERE_NAMED or node.attr.startswith("_")):
            if node.attr not in UNDERSCORED:
                found.append(at("L17", node))
    return found


def texts(file):
    found = []
    for node in ast.walk(file.tree):
        if isinstance(node, ast.Constant) and isinstance(node.value, str) and "%" in node.value:
            found.append(at("L27", node))
    if re.search(r"\\[^nt\\'\"]", file.source):
        found.append("L27 escape")
    return found


def own_names(files):
    methods = {}
    values = {}
    found = []
    for file in files:
        for node in ast.walk(file.tree):
            if isinstance(node, ast.ClassDef):
                methods.update({part.name: file.name for part in node.body if isinstance(part, ast.FunctionDef)})
            if isinstance(node, ast.Attribute) and isinstance(node.ctx, ast.Store):
                values[node.attr] = file.name
    for file in files:
        for node in ast.walk(file.tree):
            if isinstance(node, ast.Attribute) and node.attr not in list(methods) + list(values) + METHODS:
                found.append("%s: %s" % (file.name, at("L25", node)))
    found += ["%s: L18 %s" % (methods[name], name) for name in methods if name in values]
    found += ["%s: L26 %s" % (methods[name], name) for name in methods
              if name in TAKEN and name not in MAY_BE_METHODS + UNDERSCORED]
    return found + ["%s: L26 %s" % (values[name], name) for name in values
                    if name in TAKEN and name not in MAY_BE_VALUES]
