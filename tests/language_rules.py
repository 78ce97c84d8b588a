"""Looks through source for what ../shared/LANGUAGE.md rules out, as far as its form shows it.

Each fault is told as a tuple (rule, line, words).
"""

import ast
import builtins
import re
import types

PACKAGE = "shinglelap"

OWN_NAMES_OF_PYTHON = tuple(name for name in dir(builtins) if not name.startswith("_"))

ALLOWED_OF_PYTHON = (
    "len range enumerate zip min max sum abs sorted reversed int str bool list tuple dict set frozenset "
    "isinstance ord repr any all divmod Exception ValueError TypeError KeyError IndexError LookupError "
    "ZeroDivisionError ArithmeticError OverflowError RuntimeError NotImplementedError AttributeError "
    "StopIteration"
).split()

DUNDER_METHODS = ("__init__", "__eq__", "__repr__", "__str__", "__len__")
DUNDER_NAMES = ("__all__", "__version__", "__name__")

FRAME_NAMES = tuple(
    name
    for kind in (types.FrameType, types.TracebackType, types.CodeType)
    for name in dir(kind)
    if re.match("(f|tb|co)_", name)
)
NEVER_NAMES = (
    "register", "mro", "elements", "open", "input", "version_info", "with_traceback", "add_note",
) + FRAME_NAMES
NEVER_ATTRIBUTES = NEVER_NAMES + ("format", "format_map")
NOT_AS_NAMES = (
    "attrgetter breakpoint builtins compile copyright credits delattr dir eval exec exit gc getattr globals "
    "hasattr help id importlib license locals methodcaller os quit setattr super type vars"
).split()
BANNED_WORDS = (
    "type typing typing_extensions enum Enum IntEnum StrEnum Flag IntFlag Generic Protocol ABC ABCMeta "
    "namedtuple NamedTuple TypedDict TYPE_CHECKING abstractmethod"
).split()
BANNED_PARTS = ("dataclass", "overload", "contextmanager")

METHODS_OF_PYTHON = (
    "append clear copy count endswith extend find get index insert isalnum isalpha isdigit islower isspace "
    "isupper items join keys ljust lower lstrip partition pop remove replace reverse rfind rjust rpartition "
    "rsplit rstrip setdefault split splitlines startswith strip update upper values zfill bit_length"
).split()

BANNED_FILES = ["test", "tests", "testing", "site", "conftest", "sitecustomize", "usercustomize"]

STATEMENTS = (
    ast.Assign, ast.AugAssign, ast.AnnAssign, ast.If, ast.While, ast.For, ast.Return, ast.Break, ast.Continue,
    ast.Pass, ast.Raise, ast.Try, ast.Expr, ast.FunctionDef, ast.ClassDef, ast.Import, ast.ImportFrom,
)
EXPRESSIONS = (
    ast.BoolOp, ast.BinOp, ast.UnaryOp, ast.Lambda, ast.IfExp, ast.Dict, ast.Set, ast.ListComp, ast.Compare,
    ast.Call, ast.JoinedStr, ast.FormattedValue, ast.Constant, ast.Attribute, ast.Subscript, ast.Name, ast.List,
    ast.Tuple, ast.Slice,
)
WALKED_AT_ONCE = ("zip", "enumerate", "reversed", "range", "items", "keys", "values")


def text_faults(text):
    """L10, L14 and L17: sizes of the file and its lines, signs, words that stand nowhere."""
    faults = []
    lines = text.split("\n")
    if len(text.splitlines()) > 400:
        faults.append(("L10", 401, "more than 400 lines"))
    for number, line in enumerate(lines, start=1):
        if len(line) > 120:
            faults.append(("L10", number, "more than 120 characters"))
        if "\t" in line:
            faults.append(("L10", number, "a tab"))
        for sign in line:
            if not " " <= sign <= "~":
                faults.append(("L14", number, f"the sign {sign!r}"))
        for word in re.findall("[A-Za-z0-9_]+", line):
            if word in BANNED_WORDS or any(part in word for part in BANNED_PARTS):
                faults.append(("L17", number, f"the word {word}"))
    return faults


def is_text(node):
    return isinstance(node, ast.Expr) and isinstance(node.value, ast.Constant) and isinstance(node.value.value, str)


def is_main_guard(node):
    return isinstance(node, ast.If) and ast.unparse(node.test) == "__name__ == '__main__'" and not node.orelse


def top_faults(tree, main):
    """L3: what stands at the top of a module."""
    faults = []
    for place, node in enumerate(tree.body):
        plain = isinstance(node, (ast.ImportFrom, ast.Import, ast.FunctionDef, ast.ClassDef, ast.Assign, ast.AnnAssign))
        if not (plain or place == 0 and is_text(node) or main and is_main_guard(node)):
            faults.append(("L3", node.lineno, "not for the top of a module"))
        if isinstance(node, ast.Assign) and any(isinstance(part, (ast.Call, ast.Set)) for part in ast.walk(node.value)):
            faults.append(("L3", node.lineno, "no plain value"))
    return faults


def import_faults(tree, main):
    """L2 and L16: the form of the imports."""
    faults = []
    for node in ast.walk(tree):
        if isinstance(node, ast.Import):
            if not (main and ast.unparse(node) == "import sys"):
                faults.append(("L16", node.lineno, ast.unparse(node)))
        elif isinstance(node, ast.ImportFrom):
            own = node.level == 0 and node.module.split(".")[0] == PACKAGE and node.module != PACKAGE
            if not own and ast.unparse(node) != "from __future__ import annotations":
                faults.append(("L2", node.lineno, ast.unparse(node)))
            if any(alias.name == "*" for alias in node.names) or "__main__" in (node.module or ""):
                faults.append(("L2", node.lineno, ast.unparse(node)))
        else:
            continue
        if node not in tree.body:
            faults.append(("L2", node.lineno, "an import that is not at the top"))
    return faults


def function_faults(tree):
    """L4 and L10: parameters, decorators and the size of functions."""
    faults = []
    for node in ast.walk(tree):
        if isinstance(node, (ast.FunctionDef, ast.Lambda)):
            inputs = node.args
            if inputs.vararg or inputs.kwarg or inputs.kwonlyargs or inputs.posonlyargs:
                faults.append(("L4", node.lineno, "a parameter that is not plain"))
        if isinstance(node, ast.FunctionDef):
            if node.decorator_list:
                faults.append(("L4", node.lineno, "a decorator"))
            if node.end_lineno - node.lineno + 1 > 40:
                faults.append(("L10", node.lineno, "a function of more than 40 lines"))
    return faults


def class_faults(tree):
    """L5, L15 and L18: plain classes, at the top, no method twice."""
    faults = []
    for node in ast.walk(tree):
        if not isinstance(node, ast.ClassDef):
            continue
        if node not in tree.body:
            faults.append(("L15", node.lineno, "a class that is not at the top"))
        if node.decorator_list or node.keywords or len(node.bases) > 1:
            faults.append(("L5", node.lineno, "a class that is not plain"))
        for part in node.body:
            if not (isinstance(part, (ast.FunctionDef, ast.Pass)) or is_text(part)):
                faults.append(("L5", part.lineno, "a value in a class"))
        methods = [part.name for part in node.body if isinstance(part, ast.FunctionDef)]
        for name in methods:
            if methods.count(name) > 1:
                faults.append(("L18", node.lineno, f"the method {name} twice"))
            if name.startswith("__") and name not in DUNDER_METHODS:
                faults.append(("L5", node.lineno, f"the method {name}"))
    return faults


def statement_is_plain(node):
    if isinstance(node, (ast.For, ast.While)):
        return not node.orelse
    if isinstance(node, ast.Try):
        return not node.finalbody and all(handler.type is not None for handler in node.handlers)
    if isinstance(node, ast.Assign):
        return len(node.targets) == 1
    if isinstance(node, ast.Expr):
        return is_text(node) or isinstance(node.value, ast.Call)
    return isinstance(node, STATEMENTS)


def statement_faults(tree):
    """L6: the statements."""
    nodes = [node for node in ast.walk(tree) if isinstance(node, ast.stmt)]
    return [("L6", node.lineno, ast.unparse(node)) for node in nodes if not statement_is_plain(node)]


def called_name(node):
    if not isinstance(node, ast.Call):
        return None
    return getattr(node.func, "id", getattr(node.func, "attr", None))


def kept_faults(tree):
    """L23 and L24: what is to be walked or asked on the spot, not kept."""
    faults = []
    for node in ast.walk(tree):
        if isinstance(node, (ast.Assign, ast.AugAssign, ast.AnnAssign, ast.Return)):
            if called_name(node.value) in WALKED_AT_ONCE:
                faults.append(("L23", node.lineno, ast.unparse(node)))
        kept = getattr(node, "iter", None)
        if isinstance(node, (ast.Assign, ast.Return)):
            kept = node.value
        if isinstance(kept, ast.Set) or called_name(kept) in ("set", "frozenset"):
            faults.append(("L24", kept.lineno, ast.unparse(kept)))
    return faults


def constant_rule(value):
    if isinstance(value, (float, complex, bytes)):
        return "L7"
    if isinstance(value, str) and "%" in value:
        return "L27"
    return None


def operation_rule(node):
    if isinstance(node.op, (ast.Div, ast.MatMult)):
        return "L7"
    if isinstance(node.op, ast.Pow):
        power = getattr(node, "right", getattr(node, "value", None))
        if not (isinstance(power, ast.Constant) and power.value in range(65)):
            return "L27"
    return None


def comparison_rule(node):
    for sign, right in zip(node.ops, node.comparators):
        beside = [part.value for part in (node.left, right) if isinstance(part, ast.Constant)]
        told = any(value is None or isinstance(value, bool) for value in beside)
        if isinstance(sign, (ast.Is, ast.IsNot)) and not told:
            return "L20"
    return None


def expression_rule(node):
    """The rule that a node of the tree breaks, or None."""
    if isinstance(node, ast.expr) and not isinstance(node, EXPRESSIONS):
        return "L7"
    if isinstance(node, ast.Constant):
        return constant_rule(node.value)
    if isinstance(node, (ast.BinOp, ast.AugAssign)):
        return operation_rule(node)
    if isinstance(node, ast.Compare):
        return comparison_rule(node)
    if isinstance(node, ast.ListComp) and (len(node.generators) > 1 or len(node.generators[0].ifs) > 1):
        return "L7"
    if isinstance(node, ast.FormattedValue):
        plain = isinstance(node.value, ast.Name) and node.format_spec is None and node.conversion in (-1, ord("r"))
        return None if plain else "L7"
    if isinstance(node, ast.Call) and any(keyword.arg is None for keyword in node.keywords):
        return "L7"
    if isinstance(node, ast.Dict) and None in node.keys:
        return "L7"
    return None


def expression_faults(tree):
    """L7, L20 and L27: values and expressions."""
    return [
        (expression_rule(node), node.lineno, ast.unparse(node))
        for node in ast.walk(tree)
        if expression_rule(node) is not None
    ]


def bound_names(tree):
    """Every name that is given a meaning, but for methods, as (name, line)."""
    methods = [part for node in ast.walk(tree) if isinstance(node, ast.ClassDef) for part in node.body]
    for node in ast.walk(tree):
        if isinstance(node, ast.Name) and not isinstance(node.ctx, ast.Load):
            yield node.id, node.lineno
        elif isinstance(node, ast.arg):
            yield node.arg, node.lineno
        elif isinstance(node, ast.ClassDef) or isinstance(node, ast.FunctionDef) and node not in methods:
            yield node.name, node.lineno
        elif isinstance(node, ast.ExceptHandler) and node.name:
            yield node.name, node.lineno
        elif isinstance(node, ast.ImportFrom):
            for alias in node.names:
                yield alias.asname or alias.name, node.lineno


def top_names(tree):
    """The names bound at the top of a module, as (name, line)."""
    named = []
    for node in tree.body:
        if isinstance(node, (ast.FunctionDef, ast.ClassDef)):
            named.append((node.name, node.lineno))
        elif isinstance(node, (ast.ImportFrom, ast.Assign, ast.AnnAssign)):
            named.extend(bound_names(node))
    return named


def is_plain_name(name):
    return re.fullmatch("[A-Za-z][A-Za-z0-9_]*", name) is not None or name in DUNDER_METHODS + DUNDER_NAMES


def bound_faults(tree):
    """L12, L15 and L17: names that are given a meaning."""
    faults = []
    for name, line in bound_names(tree):
        if not is_plain_name(name):
            faults.append(("L12", line, name))
        if name in OWN_NAMES_OF_PYTHON:
            faults.append(("L15", line, f"{name} is a name of Python's own"))
        if name in NEVER_NAMES or name in NOT_AS_NAMES:
            faults.append(("L17", line, name))
    return faults


def shadow_faults(tree):
    """L15: names bound once at the top, and no local called like a class or an import."""
    bound = [name for name, line in top_names(tree)]
    faults = [("L15", line, f"{name} twice") for name, line in top_names(tree) if bound.count(name) > 1]
    drawn = [node for node in tree.body if isinstance(node, (ast.ClassDef, ast.ImportFrom))]
    taken = [name for name, line in top_names(ast.Module(drawn, []))]
    for definition in ast.walk(tree):
        if isinstance(definition, (ast.FunctionDef, ast.Lambda)):
            for part in ast.iter_child_nodes(definition):
                faults += [("L15", line, f"{name} again") for name, line in bound_names(part) if name in taken]
    return faults


def used_faults(tree, main, own_attributes):
    """L8, L12, L17 and L25: names and attributes that are read."""
    allowed = ALLOWED_OF_PYTHON + (["print"] if main else [])
    faults = []
    for node in ast.walk(tree):
        if isinstance(node, ast.Name) and isinstance(node.ctx, ast.Load):
            if node.id in OWN_NAMES_OF_PYTHON and node.id not in allowed:
                faults.append(("L8", node.lineno, node.id))
            if node.id in NOT_AS_NAMES or node.id in NEVER_NAMES or node.id == "sys" and not main:
                faults.append(("L17", node.lineno, node.id))
            if node.id.startswith("__") and node.id not in DUNDER_NAMES:
                faults.append(("L8", node.lineno, node.id))
        elif isinstance(node, ast.Attribute):
            if node.attr in NEVER_ATTRIBUTES:
                faults.append(("L17", node.lineno, node.attr))
            if not is_plain_name(node.attr):
                faults.append(("L12", node.lineno, node.attr))
            if node.attr not in own_attributes and not main and node.attr not in METHODS_OF_PYTHON:
                faults.append(("L25", node.lineno, node.attr))
    return faults


def own_methods(tree):
    classes = [node for node in tree.body if isinstance(node, ast.ClassDef)]
    return [part.name for node in classes for part in node.body if isinstance(part, ast.FunctionDef)]


def own_values(tree):
    nodes = [node for node in ast.walk(tree) if isinstance(node, ast.Attribute)]
    return [node.attr for node in nodes if isinstance(node.ctx, ast.Store)]


def source_faults(text, main=False, own_attributes=()):
    """All faults of one file's text; `own_attributes` are the methods and values of the package's classes."""
    tree = ast.parse(text)
    known = list(own_attributes) + own_methods(tree) + own_values(tree)
    return (
        text_faults(text)
        + top_faults(tree, main)
        + import_faults(tree, main)
        + function_faults(tree)
        + class_faults(tree)
        + statement_faults(tree)
        + kept_faults(tree)
        + expression_faults(tree)
        + bound_faults(tree)
        + shadow_faults(tree)
        + used_faults(tree, main, known)
    )


def file_name_faults(names):
    """L1 and L14: the names of the files in the package folder."""
    faults = []
    if "__init__.py" not in names:
        faults.append(("L14", 0, "no __init__.py"))
    for name in names:
        stem, dot, ending = name.partition(".")
        if ending != "py" or not re.fullmatch("[a-z][a-z0-9_]*|__init__|__main__", stem):
            faults.append(("L1", 0, name))
        banned = BANNED_FILES + BANNED_WORDS + list(OWN_NAMES_OF_PYTHON)
        if stem in banned or stem.startswith("test_") or any(part in stem for part in BANNED_PARTS):
            faults.append(("L14", 0, name))
    return faults


def drawn_from(tree):
    """What a file imports of the package's own, as (module, name)."""
    nodes = [node for node in tree.body if isinstance(node, ast.ImportFrom) and node.module.startswith(PACKAGE + ".")]
    return [(node.module, alias.name) for node in nodes for alias in node.names]


def defined_names(tree):
    nodes = [node for node in tree.body if not isinstance(node, (ast.Import, ast.ImportFrom))]
    return [name for name, line in top_names(ast.Module(nodes, []))]


def reaches(trees, start, aim, seen):
    for module, name in drawn_from(trees[start]) if start in trees else []:
        if module == aim:
            return True
        if module not in seen and reaches(trees, module, aim, seen + [module]):
            return True
    return False


def drawing_faults(trees):
    """L16: each name from the file that defines it, and no two files from one another."""
    faults = []
    for module, tree in trees.items():
        for source, name in drawn_from(tree):
            if source not in trees or name not in defined_names(trees[source]):
                faults.append(("L16", 0, f"{module} draws {name} from {source}"))
        if reaches(trees, module, module, []):
            faults.append(("L16", 0, f"{module} draws from itself"))
    return faults


def package_faults(texts):
    """L16 and L18: what only several files together show; `texts` by full module name."""
    trees = {module: ast.parse(text) for module, text in texts.items()}
    faults = drawing_faults(trees)
    files = [module.rpartition(".")[2] for module in trees]
    top = trees.get(PACKAGE + ".__init__", ast.Module([], []))
    faults += [("L16", line, f"__init__.py binds {name}") for name, line in top_names(top) if name in files]
    methods = [name for tree in trees.values() for name in own_methods(tree)]
    values = [name for tree in trees.values() for name in own_values(tree)]
    faults += [("L18", 0, f"{name} is a method and a value") for name in values if name in methods]
    return faults
