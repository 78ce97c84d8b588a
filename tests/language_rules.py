"""Looks through source for what ../shared/LANGUAGE.md rules out, as far as its form shows it.

Each fault is told as a tuple (rule, line, words).
"""

import ast
import builtins
import re
import types

PACKAGE = "shinglelap"

OWN_NAMES_OF_PYTHON = tuple(name for name in dir(builtins) if not name.startswith("_"))

ALLOWED_OF_PYTHON = (
    "len range enumerate zip min max sum abs sorted reversed int str bool list tuple dict set frozenset "
    "isinstance ord repr any all divmod Exception ValueError TypeError KeyError IndexError LookupError "
    "ZeroDivisionError ArithmeticError OverflowError RuntimeError NotImplementedError AttributeError "
    "StopIteration"
).split()

ERROR_BASES = (
    "Exception ValueError TypeError KeyError IndexError LookupError ZeroDivisionError ArithmeticError "
    "OverflowError RuntimeError NotImplementedError"
).split()

DUNDER_METHODS = ("__init__", "__eq__", "__repr__", "__str__", "__len__")
DUNDER_NAMES = ("__all__", "__version__", "__name__")

FRAME_NAMES = tuple(
    name
    for kind in (types.FrameType, types.TracebackType, types.CodeType)
    for name in dir(kind)
    if re.match("(f|tb|co)_", name)
)
NEVER_NAMES = (
    "register", "mro", "elements", "open", "input", "version_info", "with_traceback", "add_note",
) + FRAME_NAMES
NEVER_ATTRIBUTES = NEVER_NAMES + ("format", "format_map")
NOT_AS_NAMES = (
    "attrgetter breakpoint builtins compile copyright credits delattr dir eval exec exit gc getattr globals "
    "hasattr help id importlib license locals methodcaller os quit setattr super type vars"
).split()
BANNED_WORDS = (
    "type typing typing_extensions enum Enum IntEnum StrEnum Flag IntFlag Generic Protocol ABC ABCMeta "
    "namedtuple NamedTuple TypedDict TYPE_CHECKING abstractmethod"
).split()
BANNED_PARTS = ("dataclass", "overload", "contextmanager")

METHODS_OF_PYTHON = (
    "append clear copy count endswith extend find get index insert isalnum isalpha isdigit islower isspace "
    "isupper items join keys ljust lower lstrip partition pop remove replace reverse rfind rjust rpartition "
    "rsplit rstrip setdefault split splitlines startswith strip update upper values zfill bit_length"
).split()

BANNED_FILES = ["test", "tests", "testing", "site", "conftest", "sitecustomize", "usercustomize"]

STATEMENTS = (
    ast.Assign, ast.AugAssign, ast.AnnAssign, ast.If, ast.While, ast.For, ast.Return, ast.Break, ast.Continue,
    ast.Pass, ast.Raise, ast.Try, ast.Expr, ast.FunctionDef, ast.ClassDef, ast.Import, ast.ImportFrom,
)
EXPRESSIONS = (
    ast.BoolOp, ast.BinOp, ast.UnaryOp, ast.Lambda, ast.IfExp, ast.Dict, ast.Set, ast.ListComp, ast.Compare,
    ast.Call, ast.JoinedStr, ast.FormattedValue, ast.Constant, ast.Attribute, ast.Subscript, ast.Name, ast.List,
    ast.Tuple, ast.Slice,
)
WALKED_AT_ONCE = ("zip", "enumerate", "reversed", "range", "items", "keys", "values")
WALKERS = ("list", "tuple", "dict", "sorted", "sum", "any", "all", "enumerate", "zip")
CHANGES = ("append", "clear", "extend", "insert", "pop", "remove", "reverse", "setdefault", "update")

KEYWORDS_OF_PYTHON = {
    "sorted": ("key", "reverse"),
    "min": ("key", "default"),
    "max": ("key", "default"),
    "sum": ("start",),
    "enumerate": ("start",),
    "zip": ("strict",),
}
KINDS_ASKED = ("int", "str", "bool", "list", "tuple", "dict")
KEYS_OF_PYTHON = ("len", "int", "str", "abs", "sum", "min", "max", "tuple")

TAKEN_FREELY = ("KeyError", "ZeroDivisionError", "StopIteration")
TAKEN_NARROWLY = {
    "ValueError": ("int", "str", "index", "remove"),
    "LookupError": ("int", "str", "index", "remove"),
    "IndexError": (),
}

NAMES_WITHIN_VALUES = tuple(name for kind in (str, int, list, dict, set, bytes) for name in dir(kind))
VALUE_NAMES_LENT = "count index title find get join lower upper split strip copy add".split()
VALUE_NAMES_BARRED = (
    "items keys values pop update append clear extend insert remove reverse setdefault sort args encode format"
).split()


def text_faults(text):
    """L10, L14, L17 and L27: sizes of the file and its lines, signs, escapes, words that stand nowhere."""
    faults = []
    lines = text.split("\n")
    if len(text.splitlines()) > 400:
        faults.append(("L10", 401, "more than 400 lines"))
    for number, line in enumerate(lines, start=1):
        if len(line) > 120:
            faults.append(("L10", number, "more than 120 characters"))
        if "\t" in line:
            faults.append(("L10", number, "a tab"))
        for sign in line:
            if not " " <= sign <= "~":
                faults.append(("L14", number, f"the sign {sign!r}"))
        for sign in re.findall(r"\\(.)", line):
            if sign not in "nt\\'\"":
                faults.append(("L27", number, f"the escape {sign!r}"))
        for word in re.findall("[A-Za-z0-9_]+", line):
            if word in BANNED_WORDS or any(part in word for part in BANNED_PARTS):
                faults.append(("L17", number, f"the word {word}"))
    return faults


def is_text(node):
    return isinstance(node, ast.Expr) and isinstance(node.value, ast.Constant) and isinstance(node.value.value, str)


def is_main_guard(node):
    return isinstance(node, ast.If) and ast.unparse(node.test) == "__name__ == '__main__'" and not node.orelse


def top_faults(tree, main):
    """L3: what stands at the top of a module."""
    faults = []
    for place, node in enumerate(tree.body):
        plain = isinstance(node, (ast.ImportFrom, ast.Import, ast.FunctionDef, ast.ClassDef, ast.Assign, ast.AnnAssign))
        if not (plain or place == 0 and is_text(node) or main and is_main_guard(node)):
            faults.append(("L3", node.lineno, "not for the top of a module"))
        if isinstance(node, ast.Assign) and any(isinstance(part, (ast.Call, ast.Set)) for part in ast.walk(node.value)):
            faults.append(("L3", node.lineno, "no plain value"))
    return faults


def import_faults(tree, main):
    """L2 and L16: the form of the imports."""
    faults = []
    for node in ast.walk(tree):
        if isinstance(node, ast.Import):
            if not (main and ast.unparse(node) == "import sys"):
                faults.append(("L16", node.lineno, ast.unparse(node)))
        elif isinstance(node, ast.ImportFrom):
            own = node.level == 0 and node.module.split(".")[0] == PACKAGE and node.module != PACKAGE
            if not own and ast.unparse(node) != "from __future__ import annotations":
                faults.append(("L2", node.lineno, ast.unparse(node)))
            if any(alias.name == "*" for alias in node.names) or "__main__" in (node.module or ""):
                faults.append(("L2", node.lineno, ast.unparse(node)))
        else:
            continue
        if node not in tree.body:
            faults.append(("L2", node.lineno, "an import that is not at the top"))
    return faults


def function_faults(tree):
    """L4 and L10: parameters, decorators and the size of functions."""
    faults = []
    for node in ast.walk(tree):
        if isinstance(node, (ast.FunctionDef, ast.Lambda)):
            inputs = node.args
            if inputs.vararg or inputs.kwarg or inputs.kwonlyargs or inputs.posonlyargs:
                faults.append(("L4", node.lineno, "a parameter that is not plain"))
            if any(isinstance(part, (ast.Call, ast.Name)) for value in inputs.defaults for part in ast.walk(value)):
                faults.append(("L4", node.lineno, "a default that is no plain value"))
        if isinstance(node, ast.FunctionDef):
            if node.decorator_list:
                faults.append(("L4", node.lineno, "a decorator"))
            if node.end_lineno - node.lineno + 1 > 40:
                faults.append(("L10", node.lineno, "a function of more than 40 lines"))
    return faults


def lambda_faults(tree):
    """L13: no two lambdas with the same parameters on one line."""
    nodes = [node for node in ast.walk(tree) if isinstance(node, ast.Lambda)]
    stand = [(node.lineno, ast.unparse(node.args)) for node in nodes]
    return [("L13", each[0], "two lambdas alike") for each in sorted(set(stand)) if stand.count(each) > 1]


def class_faults(tree):
    """L5, L15 and L18: plain classes, at the top, no method twice."""
    faults = []
    for node in ast.walk(tree):
        if not isinstance(node, ast.ClassDef):
            continue
        if node not in tree.body:
            faults.append(("L15", node.lineno, "a class that is not at the top"))
        if node.decorator_list or node.keywords or len(node.bases) > 1:
            faults.append(("L5", node.lineno, "a class that is not plain"))
        for part in node.body:
            if not (isinstance(part, (ast.FunctionDef, ast.Pass)) or is_text(part)):
                faults.append(("L5", part.lineno, "a value in a class"))
        for base in [ast.unparse(base) for base in node.bases]:
            if base in OWN_NAMES_OF_PYTHON and base not in ERROR_BASES:
                faults.append(("L18", node.lineno, f"a class under {base}"))
        methods = [part.name for part in node.body if isinstance(part, ast.FunctionDef)]
        for name in methods:
            if methods.count(name) > 1:
                faults.append(("L18", node.lineno, f"the method {name} twice"))
            if name.startswith("__") and name not in DUNDER_METHODS:
                faults.append(("L5", node.lineno, f"the method {name}"))
    return faults


def statement_is_plain(node):
    if isinstance(node, (ast.For, ast.While)):
        return not node.orelse
    if isinstance(node, ast.Try):
        return not node.finalbody and all(handler.type is not None for handler in node.handlers)
    if isinstance(node, ast.Assign):
        return len(node.targets) == 1
    if isinstance(node, ast.Expr):
        return is_text(node) or isinstance(node.value, ast.Call)
    return isinstance(node, STATEMENTS)


def statement_faults(tree):
    """L6: the statements."""
    nodes = [node for node in ast.walk(tree) if isinstance(node, ast.stmt)]
    return [("L6", node.lineno, ast.unparse(node)) for node in nodes if not statement_is_plain(node)]


def called_name(node):
    if not isinstance(node, ast.Call):
        return None
    return getattr(node.func, "id", getattr(node.func, "attr", None))


def parents(tree):
    """For each node the one that it stands straight within."""
    return {part: node for node in ast.walk(tree) for part in ast.iter_child_nodes(node)}


def is_walked_at_once(node, parent):
    if isinstance(parent, (ast.For, ast.comprehension)):
        return parent.iter is node
    if not isinstance(parent, ast.Call) or node not in parent.args:
        return False
    if called_name(parent) in WALKERS:
        return parent.args[0] is node
    if called_name(parent) == "join":
        return isinstance(parent.func.value, ast.Constant)
    return called_name(parent) in ("min", "max") and len(parent.args) == 1


def is_asked_at_once(node, above):
    signs = (ast.Sub, ast.BitAnd, ast.BitOr, ast.BitXor)
    while isinstance(above[node], ast.BinOp) and isinstance(above[node].op, signs):
        node = above[node]
    parent = above[node]
    if isinstance(parent, ast.Compare):
        return all(isinstance(sign, (ast.In, ast.NotIn, ast.Eq, ast.NotEq)) for sign in parent.ops)
    return called_name(parent) in ("sorted", "len") and node in parent.args and not parent.keywords


def kept_faults(tree):
    """L13, L23 and L24: what is to be walked or asked on the spot, not kept."""
    faults = []
    above = parents(tree)
    for node in ast.walk(tree):
        if called_name(node) in WALKED_AT_ONCE and not is_walked_at_once(node, above[node]):
            faults.append(("L23", node.lineno, ast.unparse(node)))
        if isinstance(node, ast.Set) or called_name(node) in ("set", "frozenset"):
            if not is_asked_at_once(node, above):
                faults.append(("L24", node.lineno, ast.unparse(node)))
        if isinstance(node, ast.Set) and len(node.elts) >= 3:
            parent = above[node]
            if not (isinstance(parent, ast.Compare) and isinstance(parent.ops[-1], (ast.In, ast.NotIn))):
                faults.append(("L13", node.lineno, ast.unparse(node)))
    return faults


def changed_within(node):
    """What is changed within a node, as texts."""
    changed = []
    for part in ast.walk(node):
        if isinstance(part, ast.Call) and isinstance(part.func, ast.Attribute) and part.func.attr in CHANGES:
            changed.append(ast.unparse(part.func.value))
        if isinstance(part, ast.Subscript) and not isinstance(part.ctx, ast.Load):
            changed.append(ast.unparse(part.value))
    return changed


def walked_by(node):
    """What a walk goes through, itself or through enumerate and its like, as texts."""
    if called_name(node) in ("items", "keys", "values") and isinstance(node.func, ast.Attribute):
        return [ast.unparse(node.func.value)]
    if called_name(node) in ("enumerate", "zip", "reversed"):
        return [text for part in node.args for text in walked_by(part)]
    return [ast.unparse(node)]


def method_faults(tree, own_attributes):
    """L25: a method of Python's own values is called where it stands, or is a `key`."""
    faults = []
    above = parents(tree)
    for node in ast.walk(tree):
        if isinstance(node, ast.Attribute) and node.attr in METHODS_OF_PYTHON and node.attr not in own_attributes:
            parent = above[node]
            called = isinstance(parent, ast.Call) and parent.func is node
            if not called and not (isinstance(parent, ast.keyword) and parent.arg == "key"):
                faults.append(("L25", node.lineno, f"{node.attr} is handed on"))
    return faults


def given_faults(tree):
    """L18: values are given through a local name, never to a class or to a name of the file's top."""
    faults = []
    top = [name for name, line in top_names(tree)]
    for node in ast.walk(tree):
        if isinstance(node, ast.Attribute) and not isinstance(node.ctx, ast.Load):
            if getattr(node.value, "id", None) in top:
                faults.append(("L18", node.lineno, ast.unparse(node)))
    return faults


def handed_faults(tree, kept):
    """L15: a list or a dict of the top is handed on as a copy alone."""
    faults = []
    for node in ast.walk(tree):
        if isinstance(node, ast.Call) and not (isinstance(node.func, ast.Name) and node.func.id in ALLOWED_OF_PYTHON):
            handed = [getattr(part, "id", None) for part in node.args + [each.value for each in node.keywords]]
            faults += [("L15", node.lineno, f"{name} is handed on") for name in handed if name in kept]
    return faults


def change_faults(tree):
    """L15 and L23: what the top keeps and what a loop walks is not changed."""
    faults = []
    for node in ast.walk(tree):
        if isinstance(node, ast.For):
            changed = [text for part in node.body for text in changed_within(part)]
            faults += [("L23", node.lineno, f"{text} is changed") for text in walked_by(node.iter) if text in changed]
    given = [node for node in tree.body if isinstance(node, ast.Assign)]
    plain = [node for node in given if isinstance(node.value, (ast.List, ast.Dict))]
    kept = [name for node in plain for name, line in bound_names(node)]
    for node in plain:
        if any(isinstance(part, (ast.List, ast.Dict)) for part in ast.walk(node.value) if part is not node.value):
            faults.append(("L15", node.lineno, "a list or a dict within one of the top"))
    faults += [("L15", 0, f"{text} is changed") for text in changed_within(tree) if text in kept]
    faults += handed_faults(tree, kept)
    for node in ast.walk(tree):
        if isinstance(node, (ast.Assign, ast.Return)) and getattr(node.value, "id", None) in kept:
            faults.append(("L15", node.lineno, f"{node.value.id} is handed on"))
    return faults


def annotations(tree):
    """Every node within an annotation."""
    told = []
    for node in ast.walk(tree):
        told += [getattr(node, field, None) for field in ("annotation", "returns")]
    return [part for node in told if node is not None for part in ast.walk(node)]


def annotation_faults(tree):
    """L4 and L21: what stands in an annotation, and where none does."""
    plain = (
        ast.Name, ast.Attribute, ast.Subscript, ast.Constant, ast.List, ast.Tuple, ast.BinOp, ast.BitOr, ast.Load,
    )
    faults = [("L4", 0, ast.dump(part)) for part in annotations(tree) if not isinstance(part, plain)]
    for node in ast.walk(tree):
        if isinstance(node, ast.AnnAssign) and not (node.value and isinstance(node.target, ast.Name)):
            faults.append(("L21", node.lineno, ast.unparse(node)))
        if isinstance(node, ast.FunctionDef):
            inner = [part for part in ast.walk(node) if isinstance(part, ast.FunctionDef) and part is not node]
            faults += [("L21", part.lineno, "annotated within a def") for part in inner if annotations(part)]
    return faults


def own_classes(tree):
    defined = [node.name for node in tree.body if isinstance(node, ast.ClassDef)]
    drawn = [name for node in tree.body if isinstance(node, ast.ImportFrom) for name, line in bound_names(node)]
    return defined + [name for name in drawn if name[0].isupper() and not name.isupper()]


def stands_as_class(node, above):
    """Whether a name stands where a class may: as a base, beside `isinstance` or behind `except`."""
    parent = above[node]
    if isinstance(parent, ast.Tuple):
        node, parent = parent, above[parent]
    if called_name(parent) == "isinstance":
        return parent.args[1:] == [node]
    return isinstance(parent, (ast.ClassDef, ast.ExceptHandler))


def value_faults(tree):
    """L18 and L22: classes, and functions of Python's own, are not kept as values."""
    faults = []
    above = parents(tree)
    classes = own_classes(tree)
    aside = annotations(tree)
    for node in ast.walk(tree):
        if not isinstance(node, ast.Name) or not isinstance(node.ctx, ast.Load) or node in aside:
            continue
        parent = above[node]
        called = isinstance(parent, ast.Call) and parent.func is node
        if called or stands_as_class(node, above):
            continue
        base = isinstance(parent, ast.Attribute) and parent.attr == "__init__"
        if node.id in classes and not base:
            faults.append(("L18", node.lineno, f"{node.id} as a value"))
        key = isinstance(parent, ast.keyword) and parent.arg == "key" and node.id in KEYS_OF_PYTHON
        if node.id in OWN_NAMES_OF_PYTHON and not key:
            faults.append(("L22", node.lineno, f"{node.id} as a value"))
    return faults


def is_error(name):
    return issubclass(getattr(builtins, name), Exception) if name[0].isupper() else False


def keyword_is_plain(name, keyword):
    if keyword.arg in ("reverse", "strict") and not isinstance(keyword.value, ast.Constant):
        return False
    return keyword.arg in KEYWORDS_OF_PYTHON.get(name, ())


def call_faults(tree):
    """L22: how Python's own functions and methods are called."""
    faults = []
    for node in ast.walk(tree):
        if not isinstance(node, ast.Call):
            continue
        name = called_name(node)
        own_of_python = name in (OWN_NAMES_OF_PYTHON if isinstance(node.func, ast.Name) else METHODS_OF_PYTHON)
        if own_of_python and not all(keyword_is_plain(name, keyword) for keyword in node.keywords):
            faults.append(("L22", node.lineno, ast.unparse(node)))
        if name == "isinstance":
            kinds = [part.id for part in ast.walk(node.args[-1]) if isinstance(part, ast.Name)]
            barred = [kind for kind in kinds if kind in OWN_NAMES_OF_PYTHON and kind not in KINDS_ASKED]
            faults += [("L22", node.lineno, f"isinstance beside {kind}") for kind in barred if not is_error(kind)]
    return faults


def narrow_body_is_plain(body, names):
    """Whether only these names are called within, and nothing else could raise the error taken."""
    if len(body) > 1:
        return False
    for node in ast.walk(body[0]):
        if isinstance(node, ast.Call) and called_name(node) not in names:
            return False
        if isinstance(node, (ast.JoinedStr, ast.Slice, ast.Lambda)):
            return False
        if isinstance(node, (ast.Mult, ast.Pow, ast.Mod, ast.LShift, ast.RShift)):
            return False
    return True


def handler_faults(node):
    faults = []
    for handler in node.handlers:
        kinds = ast.walk(handler.type) if handler.type else ()
        for name in [part.id for part in kinds if isinstance(part, ast.Name)]:
            if name in TAKEN_NARROWLY:
                if not narrow_body_is_plain(node.body, TAKEN_NARROWLY[name]):
                    faults.append(("L19", handler.lineno, f"{name} is taken round too much"))
            elif name in OWN_NAMES_OF_PYTHON and name not in TAKEN_FREELY:
                faults.append(("L19", handler.lineno, f"{name} is taken"))
    return faults


def error_faults(tree):
    """L19: how errors are raised and taken."""
    faults = []
    for node in ast.walk(tree):
        if isinstance(node, ast.Try):
            faults += handler_faults(node)
        if isinstance(node, ast.Raise):
            if not isinstance(node.exc, ast.Call) or node.exc.keywords:
                faults.append(("L19", node.lineno, ast.unparse(node)))
            taken = [part.name for part in ast.walk(tree) if isinstance(part, ast.ExceptHandler)]
            if node.cause is not None and ast.unparse(node.cause) not in taken + ["None"]:
                faults.append(("L19", node.lineno, ast.unparse(node)))
    return faults


def attribute_name_faults(tree):
    """L26: the names of own methods and values."""
    faults = []
    for name in own_methods(tree):
        lent = METHODS_OF_PYTHON + ["add", "discard"] + list(DUNDER_METHODS)
        if name in NAMES_WITHIN_VALUES and name not in lent:
            faults.append(("L26", 0, f"the method {name}"))
    for name in own_values(tree):
        if name in VALUE_NAMES_BARRED or name in NAMES_WITHIN_VALUES and name not in VALUE_NAMES_LENT:
            faults.append(("L26", 0, f"the value {name}"))
    return faults


def dunder_return_is_plain(name, value):
    if name == "__init__":
        return value is None
    if name == "__len__":
        return called_name(value) == "len" or isinstance(value, ast.Constant)
    if name in ("__repr__", "__str__"):
        written = isinstance(value, (ast.Constant, ast.JoinedStr))
        joined = called_name(value) == "join" and isinstance(value.func.value, ast.Constant)
        return written or joined or called_name(value) in ("str", "repr")
    return True


def dunder_faults(tree):
    """L28: the methods with two underscores."""
    faults = []
    for node in ast.walk(tree):
        if not (isinstance(node, ast.FunctionDef) and node.name in DUNDER_METHODS):
            continue
        for part in ast.walk(node):
            if isinstance(part, ast.Return) and not dunder_return_is_plain(node.name, part.value):
                faults.append(("L28", part.lineno, ast.unparse(part)))
            if node.name != "__init__" and (isinstance(part, ast.AugAssign) or own_values(part)):
                faults.append(("L28", node.lineno, f"{node.name} stores"))
        if node.name != "__init__" and changed_within(node):
            faults.append(("L28", node.lineno, f"{node.name} changes"))
    return faults


def constant_rule(value):
    if isinstance(value, (float, complex, bytes)):
        return "L7"
    if isinstance(value, str) and "%" in value:
        return "L27"
    if isinstance(value, int) and abs(value) >= 10 ** 900:
        return "L27"
    return None


def operation_rule(node):
    if isinstance(node.op, (ast.Div, ast.MatMult)):
        return "L7"
    if isinstance(node.op, ast.Pow):
        power = getattr(node, "right", getattr(node, "value", None))
        if not (isinstance(power, ast.Constant) and power.value in range(65)):
            return "L27"
    return None


def comparison_rule(node):
    for sign, right in zip(node.ops, node.comparators):
        beside = [part.value for part in (node.left, right) if isinstance(part, ast.Constant)]
        told = any(value is None or isinstance(value, bool) for value in beside)
        if isinstance(sign, (ast.Is, ast.IsNot)) and not told:
            return "L20"
    return None


def expression_rule(node):
    """The rule that a node of the tree breaks, or None."""
    if isinstance(node, ast.expr) and not isinstance(node, EXPRESSIONS):
        return "L7"
    if isinstance(node, ast.Constant):
        return constant_rule(node.value)
    if isinstance(node, (ast.BinOp, ast.AugAssign)):
        return operation_rule(node)
    if isinstance(node, ast.Compare):
        return comparison_rule(node)
    if isinstance(node, ast.ListComp) and (len(node.generators) > 1 or len(node.generators[0].ifs) > 1):
        return "L7"
    if isinstance(node, ast.FormattedValue):
        plain = isinstance(node.value, ast.Name) and node.format_spec is None and node.conversion in (-1, ord("r"))
        return None if plain else "L7"
    if isinstance(node, ast.Call) and any(keyword.arg is None for keyword in node.keywords):
        return "L7"
    if isinstance(node, ast.Dict) and None in node.keys:
        return "L7"
    return None


def expression_faults(tree):
    """L7, L20 and L27: values and expressions."""
    return [
        (expression_rule(node), node.lineno, ast.unparse(node))
        for node in ast.walk(tree)
        if expression_rule(node) is not None
    ]


def bound_names(tree):
    """Every name that is given a meaning, but for methods, as (name, line)."""
    methods = [part for node in ast.walk(tree) if isinstance(node, ast.ClassDef) for part in node.body]
    for node in ast.walk(tree):
        if isinstance(node, ast.Name) and not isinstance(node.ctx, ast.Load):
            yield node.id, node.lineno
        elif isinstance(node, ast.arg):
            yield node.arg, node.lineno
        elif isinstance(node, ast.ClassDef) or isinstance(node, ast.FunctionDef) and node not in methods:
            yield node.name, node.lineno
        elif isinstance(node, ast.ExceptHandler) and node.name:
            yield node.name, node.lineno
        elif isinstance(node, ast.ImportFrom):
            for alias in node.names:
                yield alias.asname or alias.name, node.lineno


def top_names(tree):
    """The names bound at the top of a module, as (name, line)."""
    named = []
    for node in tree.body:
        if isinstance(node, (ast.FunctionDef, ast.ClassDef)):
            named.append((node.name, node.lineno))
        elif isinstance(node, (ast.ImportFrom, ast.Assign, ast.AnnAssign)):
            named.extend(bound_names(node))
    return named


def is_plain_name(name):
    return re.fullmatch("[A-Za-z][A-Za-z0-9_]*", name) is not None or name in DUNDER_METHODS + DUNDER_NAMES


def bound_faults(tree):
    """L12, L15 and L17: names that are given a meaning."""
    faults = []
    for name, line in bound_names(tree):
        if not is_plain_name(name):
            faults.append(("L12", line, name))
        if name in OWN_NAMES_OF_PYTHON:
            faults.append(("L15", line, f"{name} is a name of Python's own"))
        if name in NEVER_NAMES or name in NOT_AS_NAMES:
            faults.append(("L17", line, name))
    return faults


def shadow_faults(tree):
    """L15: names bound once at the top, and no local called like a class or an import."""
    bound = [name for name, line in top_names(tree)]
    faults = [("L15", line, f"{name} twice") for name, line in top_names(tree) if bound.count(name) > 1]
    drawn = [node for node in tree.body if isinstance(node, (ast.ClassDef, ast.ImportFrom))]
    taken = [name for name, line in top_names(ast.Module(drawn, []))]
    for definition in ast.walk(tree):
        if isinstance(definition, (ast.FunctionDef, ast.Lambda)):
            for part in ast.iter_child_nodes(definition):
                faults += [("L15", line, f"{name} again") for name, line in bound_names(part) if name in taken]
    return faults


def used_faults(tree, main, own_attributes):
    """L8, L12, L17 and L25: names and attributes that are read."""
    allowed = ALLOWED_OF_PYTHON + (["print"] if main else [])
    faults = []
    for node in ast.walk(tree):
        if isinstance(node, ast.Name) and isinstance(node.ctx, ast.Load):
            if node.id in OWN_NAMES_OF_PYTHON and node.id not in allowed:
                faults.append(("L8", node.lineno, node.id))
            if node.id in NOT_AS_NAMES or node.id in NEVER_NAMES or node.id == "sys" and not main:
                faults.append(("L17", node.lineno, node.id))
            if node.id.startswith("__") and node.id not in DUNDER_NAMES:
                faults.append(("L8", node.lineno, node.id))
        elif isinstance(node, ast.Attribute):
            if node.attr in NEVER_ATTRIBUTES:
                faults.append(("L17", node.lineno, node.attr))
            if not is_plain_name(node.attr):
                faults.append(("L12", node.lineno, node.attr))
            if node.attr not in own_attributes and not main and node.attr not in METHODS_OF_PYTHON:
                faults.append(("L25", node.lineno, node.attr))
    return faults


def own_methods(tree):
    classes = [node for node in tree.body if isinstance(node, ast.ClassDef)]
    return [part.name for node in classes for part in node.body if isinstance(part, ast.FunctionDef)]


def own_values(tree):
    nodes = [node for node in ast.walk(tree) if isinstance(node, ast.Attribute)]
    return [node.attr for node in nodes if isinstance(node.ctx, ast.Store)]


def source_faults(text, main=False, own_attributes=()):
    """All faults of one file's text; `own_attributes` are the methods and values of the package's classes."""
    tree = ast.parse(text)
    known = list(own_attributes) + own_methods(tree) + own_values(tree)
    return (
        text_faults(text)
        + top_faults(tree, main)
        + import_faults(tree, main)
        + function_faults(tree)
        + lambda_faults(tree)
        + class_faults(tree)
        + statement_faults(tree)
        + kept_faults(tree)
        + change_faults(tree)
        + method_faults(tree, known)
        + given_faults(tree)
        + annotation_faults(tree)
        + value_faults(tree)
        + call_faults(tree)
        + error_faults(tree)
        + attribute_name_faults(tree)
        + dunder_faults(tree)
        + expression_faults(tree)
        + bound_faults(tree)
        + shadow_faults(tree)
        + used_faults(tree, main, known)
    )


def file_name_faults(names):
    """L1 and L14: the names of the files in the package folder."""
    faults = []
    if "__init__.py" not in names:
        faults.append(("L14", 0, "no __init__.py"))
    for name in names:
        stem, dot, ending = name.partition(".")
        if ending != "py" or not re.fullmatch("[a-z][a-z0-9_]*|__init__|__main__", stem):
            faults.append(("L1", 0, name))
        banned = BANNED_FILES + BANNED_WORDS + list(OWN_NAMES_OF_PYTHON)
        if stem in banned or stem.startswith("test_") or any(part in stem for part in BANNED_PARTS):
            faults.append(("L14", 0, name))
    return faults


def drawn_from(tree):
    """What a file imports of the package's own, as (module, name)."""
    nodes = [node for node in tree.body if isinstance(node, ast.ImportFrom) and node.module.startswith(PACKAGE + ".")]
    return [(node.module, alias.name) for node in nodes for alias in node.names]


def defined_names(tree):
    nodes = [node for node in tree.body if not isinstance(node, (ast.Import, ast.ImportFrom))]
    return [name for name, line in top_names(ast.Module(nodes, []))]


def reaches(trees, start, aim, seen):
    for module, name in drawn_from(trees[start]) if start in trees else []:
        if module == aim:
            return True
        if module not in seen and reaches(trees, module, aim, seen + [module]):
            return True
    return False


def drawing_faults(trees):
    """L16: each name from the file that defines it, and no two files from one another."""
    faults = []
    for module, tree in trees.items():
        for source, name in drawn_from(tree):
            if source not in trees or name not in defined_names(trees[source]):
                faults.append(("L16", 0, f"{module} draws {name} from {source}"))
        if reaches(trees, module, module, []):
            faults.append(("L16", 0, f"{module} draws from itself"))
    return faults


def package_faults(texts):
    """L16 and L18: what only several files together show; `texts` by full module name."""
    trees = {module: ast.parse(text) for module, text in texts.items()}
    faults = drawing_faults(trees)
    files = [module.rpartition(".")[2] for module in trees]
    top = trees.get(PACKAGE + ".__init__", ast.Module([], []))
    faults += [("L16", line, f"__init__.py binds {name}") for name, line in top_names(top) if name in files]
    methods = [name for tree in trees.values() for name in own_methods(tree)]
    values = [name for tree in trees.values() for name in own_values(tree)]
    faults += [("L18", 0, f"{name} is a method and a value") for name in values if name in methods]
    return faults
