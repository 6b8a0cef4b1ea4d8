"""What a script can look up of the rules in LANGUAGE.md, for files of the package.

faults(files) takes a dict of file names and texts, and gives back a sorted
list of (file, row, rule). Some rules are held more narrowly than they are
told (no set, no annotation, no other method with two underscores than
__init__), as the package needs no more.
"""

import ast
import builtins
import re

PACKAGE = "programends"

LONGEST_DEF = 40
LONGEST_FILE = 399
LONGEST_ROW = 120

OWN_NAMES = set(
    "len range enumerate zip min max sum abs sorted reversed int str bool list tuple dict isinstance ord repr "
    "any all divmod Exception ValueError TypeError KeyError IndexError LookupError ZeroDivisionError "
    "ArithmeticError OverflowError RuntimeError NotImplementedError AttributeError StopIteration".split()
)
ERRORS = {name for name in OWN_NAMES if name[0].isupper()}
OWN_METHODS = set(
    "append clear copy count endswith extend find get index insert isalnum isalpha isdigit islower isspace isupper "
    "items join keys ljust lower lstrip partition pop remove replace reverse rfind rjust rpartition rsplit rstrip "
    "setdefault split splitlines startswith strip update upper values zfill bit_length".split()
)
TAKEN_NAMES = {name for kind in (str, int, list, tuple, dict, set, frozenset, bytes) for name in vars(kind)}
NOWHERE_AS_NAME = set(
    "register mro elements open input version_info with_traceback add_note f_back f_code f_globals f_locals tb_next "
    "tb_frame co_names co_code format format_map attrgetter breakpoint builtins compile copyright credits delattr dir "
    "eval exec exit gc getattr globals hasattr help id importlib license locals methodcaller os quit setattr super "
    "type vars sys __name__".split()
)
NOWHERE_AS_WORD = set(
    "type typing typing_extensions enum Enum IntEnum StrEnum Flag IntFlag Generic Protocol ABC ABCMeta namedtuple "
    "NamedTuple TypedDict TYPE_CHECKING abstractmethod".split()
)
NOWHERE_AT_ALL = ("dataclass", "overload", "contextmanager")
BAD_FILES = {"test", "tests", "testing", "site", "conftest", "sitecustomize", "usercustomize"}
NOT_TAKEN = {
    "Exception", "TypeError", "ArithmeticError", "OverflowError", "RuntimeError", "NotImplementedError",
    "AttributeError",
}
KEYWORDS = {
    "sorted": {"key", "reverse"}, "min": {"key", "default"}, "max": {"key", "default"}, "sum": {"start"},
    "enumerate": {"start"}, "zip": {"strict"},
}
WALKED = {"zip", "enumerate", "reversed", "range"}
WALKERS = {"list", "tuple", "dict", "sorted", "sum", "any", "all", "enumerate", "zip", "min", "max"}

STATEMENTS = (
    ast.Assign, ast.AugAssign, ast.If, ast.While, ast.For, ast.Return, ast.Break, ast.Continue, ast.Pass, ast.Raise,
    ast.Try, ast.FunctionDef, ast.ClassDef, ast.ImportFrom, ast.Expr,
)
EXPRESSIONS = (
    ast.BoolOp, ast.BinOp, ast.UnaryOp, ast.Lambda, ast.IfExp, ast.Dict, ast.ListComp, ast.Compare, ast.Call,
    ast.FormattedValue, ast.JoinedStr, ast.Constant, ast.Attribute, ast.Subscript, ast.Name, ast.List, ast.Tuple,
    ast.Slice,
)


def faults(files):
    trees = {}
    found = []
    for name, text in files.items():
        found += [(name, row, rule) for row, rule in text_faults(name, text)]
        trees[name] = ast.parse(text)
    for name, tree in trees.items():
        for look in (
            top_faults, import_faults, def_faults, class_faults, statement_faults, expression_faults, name_faults,
            attribute_faults, call_faults, walk_faults, error_faults,
        ):
            found += [(name, row, rule) for row, rule in look(name, tree)]
    found += package_faults(trees)
    return sorted(set(found))


def text_faults(name, text):
    """What the rows of a file and its name show: L1, L10, L14, L17."""
    stem = name[:-3]
    if not name.endswith(".py") or not re.fullmatch(r"[a-z0-9_]+", stem):
        yield 0, "L1"
    like_python = hasattr(builtins, stem) and stem != "__init__"
    if stem in BAD_FILES or stem.startswith("test_") or like_python or stem in NOWHERE_AS_WORD:
        yield 0, "L14"
    rows = text.split("\n")
    if len(text.splitlines()) > LONGEST_FILE:
        yield 0, "L10"
    for place, row in enumerate(rows, start=1):
        if len(row) > LONGEST_ROW or "\t" in row:
            yield place, "L10"
        if any(not " " <= sign <= "~" and sign != "\t" for sign in row):
            yield place, "L14"
        if NOWHERE_AS_WORD & set(re.findall(r"\w+", row)) or any(word in row for word in NOWHERE_AT_ALL):
            yield place, "L17"


def is_docstring(node):
    return isinstance(node, ast.Expr) and isinstance(node.value, ast.Constant) and isinstance(node.value.value, str)


def is_plain(node, deep=0):
    if isinstance(node, ast.UnaryOp) and isinstance(node.op, ast.USub):
        return isinstance(node.operand, ast.Constant)
    if isinstance(node, ast.Constant):
        return node.value is None or isinstance(node.value, (int, str))
    if isinstance(node, ast.Tuple):
        return all(is_plain(part, 1) for part in node.elts)
    if deep:
        return False
    if isinstance(node, ast.List):
        return all(is_plain(part, 1) for part in node.elts)
    if isinstance(node, ast.Dict):
        return all(is_plain(part, 1) for part in node.keys + node.values)
    return False


def top_names(tree):
    """The names bound at a file's top, with their rows."""
    for node in tree.body:
        if isinstance(node, (ast.FunctionDef, ast.ClassDef)):
            yield node.name, node.lineno
        if isinstance(node, ast.ImportFrom):
            for drawn in node.names:
                yield drawn.asname or drawn.name, node.lineno
        if isinstance(node, ast.Assign) and isinstance(node.targets[0], ast.Name):
            yield node.targets[0].id, node.lineno


def top_faults(name, tree):
    """What stands at a file's top: L3, L15."""
    if not (tree.body and is_docstring(tree.body[0])):
        yield 1, "L3"
    for place, node in enumerate(tree.body):
        if isinstance(node, (ast.FunctionDef, ast.ClassDef, ast.ImportFrom)) or (place == 0 and is_docstring(node)):
            continue
        if not (isinstance(node, ast.Assign) and isinstance(node.targets[0], ast.Name) and is_plain(node.value)):
            yield node.lineno, "L3"
    seen = set()
    for bound, row in top_names(tree):
        if bound in seen:
            yield row, "L15"
        seen.add(bound)


def import_faults(name, tree):
    """L2, L16."""
    begun = False
    for node in tree.body:
        if not isinstance(node, ast.ImportFrom) and not is_docstring(node):
            begun = True
        if isinstance(node, ast.ImportFrom) and begun:
            yield node.lineno, "L2"
    for node in ast.walk(tree):
        if isinstance(node, ast.Import):
            yield node.lineno, "L16"
        if isinstance(node, ast.ImportFrom):
            if node not in tree.body or node.level or not (node.module or "").startswith(PACKAGE + "."):
                yield node.lineno, "L2"
            if any(drawn.name == "*" for drawn in node.names):
                yield node.lineno, "L2"


def def_faults(name, tree):
    """L4, L10, L21."""
    for node in ast.walk(tree):
        if not isinstance(node, (ast.FunctionDef, ast.Lambda)):
            continue
        given = node.args
        if given.vararg or given.kwarg or given.kwonlyargs or given.posonlyargs:
            yield node.lineno, "L4"
        if not all(isinstance(plain, ast.Constant) for plain in given.defaults):
            yield node.lineno, "L4"
        if isinstance(node, ast.FunctionDef):
            if node.decorator_list:
                yield node.lineno, "L4"
            if node.end_lineno - node.lineno + 1 > LONGEST_DEF:
                yield node.lineno, "L10"
            if node.returns or any(one.annotation for one in given.args):
                yield node.lineno, "L21"


def class_faults(name, tree):
    """L5, L15, L18, L28."""
    for node in ast.walk(tree):
        if not isinstance(node, ast.ClassDef):
            continue
        if node not in tree.body:
            yield node.lineno, "L15"
        if node.decorator_list or node.keywords or len(node.bases) > 1:
            yield node.lineno, "L5"
        methods = []
        for place, inner in enumerate(node.body):
            if isinstance(inner, ast.FunctionDef):
                methods.append(inner.name)
                if inner.name == "__init__":
                    for back in ast.walk(inner):
                        if isinstance(back, ast.Return):
                            yield back.lineno, "L28"
                elif inner.name.startswith("_"):
                    yield inner.lineno, "L28"
            elif not (place == 0 and is_docstring(inner)) and not isinstance(inner, ast.Pass):
                yield inner.lineno, "L5"
        if len(set(methods)) < len(methods):
            yield node.lineno, "L18"


def statement_faults(name, tree):
    """L6."""
    docstrings = set()
    for node in ast.walk(tree):
        if isinstance(node, (ast.Module, ast.FunctionDef, ast.ClassDef)) and node.body and is_docstring(node.body[0]):
            docstrings.add(node.body[0])
    for node in ast.walk(tree):
        if not isinstance(node, ast.stmt) or isinstance(node, ast.Import):
            continue
        wrong = not isinstance(node, STATEMENTS)
        if isinstance(node, ast.Assign):
            wrong = len(node.targets) != 1
        if isinstance(node, (ast.For, ast.While)):
            wrong = bool(node.orelse)
        if isinstance(node, ast.Try):
            wrong = bool(node.finalbody)
        if isinstance(node, ast.Expr):
            wrong = not isinstance(node.value, ast.Call) and node not in docstrings
        if wrong:
            yield node.lineno, "L6"


def expression_faults(name, tree):
    """L7, L20, L27."""
    for node in ast.walk(tree):
        if isinstance(node, ast.expr) and not isinstance(node, EXPRESSIONS):
            yield node.lineno, "L7"
        if isinstance(node, ast.Constant) and not (node.value is None or isinstance(node.value, (int, str))):
            yield node.lineno, "L7"
        if isinstance(node, ast.Constant) and isinstance(node.value, str) and "%" in node.value:
            yield node.lineno, "L27"
        if isinstance(node, (ast.BinOp, ast.AugAssign)) and isinstance(node.op, (ast.Div, ast.MatMult)):
            yield node.lineno, "L7"
        if isinstance(node, ast.BinOp) and isinstance(node.op, ast.Pow):
            if not isinstance(node.right, ast.Constant):
                yield node.lineno, "L27"
        if isinstance(node, ast.ListComp):
            if len(node.generators) > 1 or len(node.generators[0].ifs) > 1:
                yield node.lineno, "L7"
        if isinstance(node, ast.FormattedValue):
            if not isinstance(node.value, ast.Name) or node.format_spec or node.conversion not in (-1, ord("r")):
                yield node.lineno, "L7"
        if isinstance(node, ast.Compare):
            for operator, behind in zip(node.ops, node.comparators):
                if isinstance(operator, (ast.Is, ast.IsNot)):
                    if not (isinstance(behind, ast.Constant) and behind.value in (None, True, False)):
                        yield node.lineno, "L20"


def bound_names(tree):
    """All parameters and locals, and the names of defs, with their rows."""
    for node in ast.walk(tree):
        if isinstance(node, ast.Name) and isinstance(node.ctx, ast.Store):
            yield node.id, node.lineno
        if isinstance(node, ast.arg):
            yield node.arg, node.lineno
        if isinstance(node, (ast.FunctionDef, ast.ClassDef)) and node.name != "__init__":
            yield node.name, node.lineno
        if isinstance(node, ast.ExceptHandler) and node.name:
            yield node.name, node.lineno
        if isinstance(node, ast.ImportFrom):
            for drawn in node.names:
                yield drawn.asname or drawn.name, node.lineno


def name_faults(name, tree):
    """L8, L12, L15, L17, L24."""
    bound = list(bound_names(tree))
    known = {one for one, row in bound}
    tops = {
        one for node in tree.body if isinstance(node, (ast.ClassDef, ast.ImportFrom))
        for one, row in top_names(ast.Module([node], []))
    }
    in_classes = {
        inner for node in tree.body if isinstance(node, ast.ClassDef) for inner in node.body
    }
    methods = {(inner.name, inner.lineno) for inner in in_classes if isinstance(inner, ast.FunctionDef)}
    for one, row in bound:
        if not re.fullmatch(r"[A-Za-z][A-Za-z0-9_]*", one):
            yield row, "L12"
        if hasattr(builtins, one) and (one, row) not in methods:
            yield row, "L15"
    for node in ast.walk(tree):
        local = node.id if isinstance(node, ast.Name) and isinstance(node.ctx, ast.Store) else None
        if isinstance(node, ast.arg):
            local = node.arg
        if local in tops:
            yield node.lineno, "L15"
        used = None
        if isinstance(node, ast.Name):
            used = node.id
            if used not in known and used not in OWN_NAMES:
                yield node.lineno, "L24" if used in ("set", "frozenset") else "L8"
        if isinstance(node, ast.Attribute):
            used = node.attr
        if used in NOWHERE_AS_NAME or (isinstance(node, (ast.arg, ast.FunctionDef)) and local in NOWHERE_AS_NAME):
            yield node.lineno, "L17"


def attribute_faults(name, tree):
    """L18, L26: values are given through a local name, and bear names of their own."""
    locals_known = {"self"}
    for node in ast.walk(tree):
        if isinstance(node, (ast.FunctionDef, ast.Lambda)):
            locals_known |= {one.arg for one in node.args.args}
            locals_known |= {
                inner.id for inner in ast.walk(node) if isinstance(inner, ast.Name) and isinstance(inner.ctx, ast.Store)
            }
    free = {"count", "index", "title", "find", "get", "join", "lower", "upper", "split", "strip", "copy", "add"}
    for node in ast.walk(tree):
        if isinstance(node, ast.Attribute) and isinstance(node.ctx, ast.Store):
            if not (isinstance(node.value, ast.Name) and node.value.id in locals_known):
                yield node.lineno, "L18"
            if node.attr in TAKEN_NAMES - free or node.attr == "args":
                yield node.lineno, "L26"
        if isinstance(node, ast.Attribute) and node.attr.startswith("_") and node.attr != "__init__":
            yield node.lineno, "L12"


def call_faults(name, tree):
    """L22."""
    called = {id(node.func) for node in ast.walk(tree) if isinstance(node, ast.Call)}
    called |= {id(one.value) for one in ast.walk(tree) if isinstance(one, ast.keyword)}
    for node in ast.walk(tree):
        if isinstance(node, ast.Call):
            words = {one.arg for one in node.keywords}
            if isinstance(node.func, ast.Name) and node.func.id in OWN_NAMES:
                if words - KEYWORDS.get(node.func.id, set()):
                    yield node.lineno, "L22"
            if isinstance(node.func, ast.Attribute) and node.func.attr in OWN_METHODS and words:
                yield node.lineno, "L22"
        if isinstance(node, ast.Name) and node.id in OWN_NAMES - ERRORS and id(node) not in called:
            if isinstance(node.ctx, ast.Load) and not stands_by_isinstance(node, tree):
                yield node.lineno, "L22"


def stands_by_isinstance(name, tree):
    for node in ast.walk(tree):
        if isinstance(node, ast.Call) and isinstance(node.func, ast.Name) and node.func.id == "isinstance":
            if any(inner is name for inner in ast.walk(node.args[1])):
                return True
    return False


def walk_faults(name, tree):
    """L23: what is walked at once is not kept."""
    walked = set()
    for node in ast.walk(tree):
        if isinstance(node, (ast.For, ast.comprehension)):
            walked.add(id(node.iter))
        if isinstance(node, ast.Call) and isinstance(node.func, ast.Name) and node.func.id in WALKERS and node.args:
            walked.add(id(node.args[0]))
    for node in ast.walk(tree):
        if isinstance(node, ast.Call) and id(node) not in walked:
            if isinstance(node.func, ast.Name) and node.func.id in WALKED:
                yield node.lineno, "L23"
            if isinstance(node.func, ast.Attribute) and node.func.attr in ("items", "keys", "values"):
                yield node.lineno, "L23"
    for node in ast.walk(tree):
        if isinstance(node, ast.For) and isinstance(node.iter, ast.Name):
            for inner in ast.walk(ast.Module(node.body, [])):
                if isinstance(inner, ast.Attribute) and isinstance(inner.value, ast.Name):
                    if inner.value.id == node.iter.id and inner.attr in ("append", "pop", "remove", "insert", "extend"):
                        yield inner.lineno, "L23"


def error_faults(name, tree):
    """L19: which errors are taken, and what is raised."""
    for node in ast.walk(tree):
        if isinstance(node, ast.ExceptHandler):
            taken = node.type.elts if isinstance(node.type, ast.Tuple) else [node.type]
            if not taken or any(not isinstance(one, ast.Name) or one.id in NOT_TAKEN for one in taken):
                yield node.lineno, "L19"
        if isinstance(node, ast.Raise) and not isinstance(node.exc, ast.Call):
            yield node.lineno, "L19"


def package_faults(trees):
    """What the files show together: L16, L18, L25."""
    found = []
    defined = {
        name[:-3]: {bound for node in tree.body if not isinstance(node, ast.ImportFrom)
                    for bound, row in top_names(ast.Module([node], []))}
        for name, tree in trees.items()
    }
    draws = {}
    methods = set()
    values = set()
    for name, tree in trees.items():
        draws[name[:-3]] = set()
        for node in ast.walk(tree):
            if isinstance(node, ast.ImportFrom):
                origin = (node.module or "").partition(".")[2]
                draws[name[:-3]].add(origin)
                for drawn in node.names:
                    if drawn.name not in defined.get(origin, set()):
                        found.append((name, node.lineno, "L16"))
            if isinstance(node, ast.ClassDef):
                methods |= {inner.name for inner in node.body if isinstance(inner, ast.FunctionDef)}
            if isinstance(node, ast.Attribute) and isinstance(node.ctx, ast.Store):
                values.add(node.attr)
    for name, tree in trees.items():
        for node in ast.walk(tree):
            if isinstance(node, ast.Attribute) and isinstance(node.ctx, ast.Store) and node.attr in methods:
                found.append((name, node.lineno, "L18"))
            if isinstance(node, ast.Attribute) and isinstance(node.ctx, ast.Load):
                if node.attr not in methods | values | OWN_METHODS:
                    found.append((name, node.lineno, "L25"))
            if isinstance(node, ast.FunctionDef) and node in tree.body and node.name == "answers" and name != "gate.py":
                found.append((name, node.lineno, "L16"))
        if name[:-3] in reached(draws, name[:-3]):
            found.append((name, 0, "L16"))
    return found


def reached(draws, start):
    """All files that this one draws from, in whatever many steps."""
    seen = set()
    ahead = list(draws[start])
    while ahead:
        now = ahead.pop()
        if now not in seen:
            seen.add(now)
            ahead += draws.get(now, [])
    return seen
