"""Finds where the package leaves the part of Python that it keeps to.

Where a rule leaves a choice, the narrower side is asked for: no sets, no annotations, no `try`, no f-string formats.
Each finding is a rule's name, a line and a few words.
"""

import ast
import builtins
import io
import re
import tokenize

PACKAGE = "pairsevent"
OWN_NAMES = set("""len range enumerate zip min max sum abs sorted reversed int str bool list tuple dict isinstance
    ord repr any all divmod Exception ValueError TypeError KeyError IndexError LookupError ZeroDivisionError
    ArithmeticError OverflowError RuntimeError NotImplementedError AttributeError StopIteration""".split())
PYTHON_NAMES = set(dir(builtins)) - {name for name in dir(builtins) if name.startswith("_")}
DUNDERS = {"__init__", "__eq__", "__repr__", "__str__", "__len__"}
METHODS = set("""append clear copy count endswith extend find get index insert isalnum isalpha isdigit islower isspace
    isupper items join keys ljust lower lstrip partition pop remove replace reverse rfind rjust rpartition rsplit rstrip
    setdefault split splitlines startswith strip update upper values zfill bit_length""".split())
CHANGING = set("append clear extend insert pop remove reverse setdefault update".split())
TAKEN = {name for kind in (str, int, list, dict, set, bytes, tuple) for name in dir(kind)}
VALUES_ALLOWED = set("count index title find get join lower upper split strip copy add".split())
UNUSED = set("""register mro elements open input version_info with_traceback add_note f_back f_code f_globals f_locals
    tb_next tb_frame co_names co_code gi_frame""".split())
UNUSED_NAMES = set("""attrgetter breakpoint builtins compile copyright credits delattr dir eval exec exit gc getattr
    globals hasattr help id importlib license locals methodcaller os quit setattr super type vars sys""".split())
WORDS = re.compile(r"\b(type|typing|typing_extensions|enum|Enum|IntEnum|StrEnum|Flag|IntFlag|Generic|Protocol|ABC|ABCMeta"
                   r"|namedtuple|NamedTuple|TypedDict|TYPE_CHECKING|abstractmethod)\b|dataclass|overload|contextmanager")
WALKED = set("zip enumerate reversed range".split())
WALKED_METHODS = set("items keys values".split())
WALKERS = set("list tuple dict sorted sum any all enumerate zip min max".split())
KEYWORDS = {"sorted": {"key", "reverse"}, "min": {"key", "default"}, "max": {"key", "default"}, "sum": {"start"},
            "enumerate": {"start"}, "zip": {"strict"}}
KEYS = set("len int str abs sum min max tuple".split())
STATEMENTS = (ast.Assign, ast.AugAssign, ast.If, ast.While, ast.For, ast.Return, ast.Break, ast.Continue, ast.Pass,
              ast.Raise, ast.Expr, ast.FunctionDef, ast.ClassDef, ast.ImportFrom)
EXPRESSIONS = (ast.Constant, ast.List, ast.Tuple, ast.Dict, ast.BinOp, ast.UnaryOp, ast.Compare, ast.BoolOp, ast.IfExp,
               ast.Call, ast.Attribute, ast.Subscript, ast.Slice, ast.ListComp, ast.Name, ast.Lambda, ast.JoinedStr,
               ast.FormattedValue)
FILE_NAMES_OUT = {"test", "tests", "testing", "site", "conftest", "sitecustomize", "usercustomize"}


def walk_with_parents(tree):
    for parent in ast.walk(tree):
        for child in ast.iter_child_nodes(parent):
            yield child, parent


def called_name(node):
    if isinstance(node, ast.Call) and isinstance(node.func, ast.Name):
        return node.func.id
    return None


def called_method(node):
    if isinstance(node, ast.Call) and isinstance(node.func, ast.Attribute):
        return node.func.attr
    return None


def is_docstring(node):
    return isinstance(node, ast.Expr) and isinstance(node.value, ast.Constant) and isinstance(node.value.value, str)


def is_plain(node, functions):
    """Whether a value may stand at the top of a module or as a default."""
    if isinstance(node, ast.UnaryOp):
        return isinstance(node.op, ast.USub) and isinstance(node.operand, ast.Constant)
    if isinstance(node, ast.Constant):
        return node.value is None or isinstance(node.value, (int, str))
    if isinstance(node, (ast.List, ast.Tuple)):
        return all(is_plain(part, functions) for part in node.elts)
    if isinstance(node, ast.Dict):
        return all(part is not None and is_plain(part, functions) for part in node.keys + node.values)
    return isinstance(node, ast.Name) and node.id in functions


def bound_names(tree):
    """Every name that is given a value, with its line."""
    for node in ast.walk(tree):
        if isinstance(node, ast.Name) and not isinstance(node.ctx, ast.Load):
            yield node.id, node.lineno
        elif isinstance(node, ast.arg):
            yield node.arg, node.lineno
        elif isinstance(node, (ast.FunctionDef, ast.ClassDef)):
            yield node.name, node.lineno
        elif isinstance(node, ast.alias):
            yield node.asname or node.name, node.lineno


def check_text(text):
    lines = text.split("\n")
    if len(lines) - 1 > 400:
        yield "L10", 400, "a file of more than 400 lines"
    for number, words in enumerate(lines, start=1):
        if len(words) > 120:
            yield "L10", number, "a line of more than 120 characters"
        if not all(" " <= sign <= "~" for sign in words):
            yield "L14", number, "a sign that is not from the blank to ~"
        if WORDS.search(words):
            yield "L17", number, "a word that stands nowhere"
    for token in tokenize.generate_tokens(io.StringIO(text).readline):
        if token.type == tokenize.STRING:
            if re.search(r"\\[^nt\\'\"]", token.string.replace("\\\\", "")):
                yield "L27", token.start[0], "an escape"
            if "%" in token.string:
                yield "L27", token.start[0], "a text with a per cent sign"


def check_top(tree):
    functions = set()
    bound = []
    for node in tree.body:
        if isinstance(node, ast.FunctionDef):
            functions.add(node.name)
        if isinstance(node, (ast.FunctionDef, ast.ClassDef)):
            bound.append(node.name)
        elif isinstance(node, ast.Assign):
            if not all(isinstance(target, ast.Name) for target in node.targets) or not is_plain(node.value, functions):
                yield "L3", node.lineno, "no plain value"
            bound += [target.id for target in node.targets if isinstance(target, ast.Name)]
            if isinstance(node.value, (ast.List, ast.Dict)):
                if any(isinstance(part, (ast.List, ast.Dict)) for part in list(ast.walk(node.value))[1:]):
                    yield "L15", node.lineno, "a list or dict within one of the file's top"
        elif isinstance(node, ast.ImportFrom):
            bound += [alias.asname or alias.name for alias in node.names]
        elif not is_docstring(node):
            yield "L3", node.lineno, "something done at the top"
    for name in set(bound):
        if bound.count(name) > 1:
            yield "L15", 1, f"{name} is bound twice"


def check_kept_values(tree):
    """Lists and dicts of the file's top are only read, on the spot."""
    kept = {target.id for node in tree.body if isinstance(node, ast.Assign) for target in node.targets
            if isinstance(node.value, (ast.List, ast.Dict)) and isinstance(target, ast.Name)}
    for node, parent in walk_with_parents(tree):
        if not isinstance(node, ast.Name) or node.id not in kept or not isinstance(node.ctx, ast.Load):
            continue
        read = isinstance(parent, ast.Subscript) and isinstance(parent.ctx, ast.Load)
        read = read or isinstance(parent, ast.Compare) or (isinstance(parent, ast.For) and parent.iter is node)
        read = read or called_name(parent) in ("len", "list", "dict", "tuple", "sorted", "sum", "min", "max")
        read = read or (isinstance(parent, ast.Attribute) and parent.attr in ("get", "items", "keys", "values", "index"))
        read = read or (isinstance(parent, ast.comprehension) and parent.iter is node)
        if not read:
            yield "L15", node.lineno, f"{node.id} is not only read"


def check_statements(tree):
    for node in ast.walk(tree):
        if isinstance(node, ast.stmt) and not isinstance(node, STATEMENTS):
            yield "L6", node.lineno, type(node).__name__
        if isinstance(node, ast.Assign) and len(node.targets) != 1:
            yield "L6", node.lineno, "several targets"
        if isinstance(node, (ast.While, ast.For)) and node.orelse:
            yield "L6", node.lineno, "else behind a loop"
        if isinstance(node, ast.Expr) and not isinstance(node.value, ast.Call) and not is_docstring(node):
            yield "L6", node.lineno, "a value by itself"


def check_functions(tree):
    for node, parent in walk_with_parents(tree):
        if not isinstance(node, (ast.FunctionDef, ast.Lambda)):
            continue
        told = node.args
        if told.vararg or told.kwarg or told.kwonlyargs or told.posonlyargs:
            yield "L4", node.lineno, "parameters that are not plain"
        if not all(is_plain(value, set()) for value in told.defaults):
            yield "L4", node.lineno, "a default that is not plain"
        if isinstance(node, ast.Lambda):
            continue
        if node.decorator_list:
            yield "L4", node.lineno, "a decorator"
        if node.end_lineno - node.lineno + 1 > 40:
            yield "L10", node.lineno, "a function of more than 40 lines"
        if node.returns or any(part.annotation for part in told.args):
            yield "L21", node.lineno, "an annotation"
        if node.name == "__init__" and any(isinstance(part, ast.Return) and part.value for part in ast.walk(node)):
            yield "L28", node.lineno, "__init__ gives something back"
        if node.name.startswith("__") and (node.name not in DUNDERS or not isinstance(parent, ast.ClassDef)):
            yield "L8", node.lineno, "a name with two underscores"
        if node.name in DUNDERS - {"__init__"}:
            yield "L28", node.lineno, "best not written"


def check_classes(tree):
    classes = {node.name for node in ast.walk(tree) if isinstance(node, ast.ClassDef)}
    for node, parent in walk_with_parents(tree):
        if isinstance(node, ast.ClassDef):
            if not isinstance(parent, ast.Module):
                yield "L15", node.lineno, "a class that is not at the file's top"
            if len(node.bases) > 1 or node.keywords or node.decorator_list:
                yield "L5", node.lineno, "no plain class"
            if not all(isinstance(part, ast.FunctionDef) or is_docstring(part) for part in node.body):
                yield "L5", node.lineno, "a value in the class body"
            names = [part.name for part in node.body if isinstance(part, ast.FunctionDef)]
            if len(names) != len(set(names)):
                yield "L18", node.lineno, "a method stands twice"
        if isinstance(node, ast.Name) and node.id in classes and not is_use_of_a_class(node, parent):
            yield "L18", node.lineno, "a class is kept, handed on or shown"


def is_use_of_a_class(node, parent):
    if isinstance(parent, ast.Call):
        return parent.func is node or called_name(parent) == "isinstance"
    return isinstance(parent, (ast.ClassDef, ast.Raise, ast.ExceptHandler, ast.Attribute))


def check_expressions(tree):
    for node in ast.walk(tree):
        if isinstance(node, ast.expr) and not isinstance(node, EXPRESSIONS):
            yield "L7", node.lineno, type(node).__name__
        if isinstance(node, ast.Constant) and not (node.value is None or isinstance(node.value, (int, str))):
            yield "L7", node.lineno, "a float, bytes or ..."
        if isinstance(node, (ast.BinOp, ast.AugAssign)) and isinstance(node.op, (ast.Div, ast.MatMult)):
            yield "L7", node.lineno, "/ or @"
        if isinstance(node, ast.BinOp) and isinstance(node.op, ast.Pow):
            if not (isinstance(node.right, ast.Constant) and 0 <= node.right.value <= 64):
                yield "L27", node.lineno, "an exponent that is not written"
        if isinstance(node, ast.ListComp) and (len(node.generators) > 1 or len(node.generators[0].ifs) > 1):
            yield "L7", node.lineno, "more than one for or if"
        if isinstance(node, ast.FormattedValue):
            if not isinstance(node.value, ast.Name) or node.format_spec or node.conversion not in (-1, ord("r")):
                yield "L7", node.lineno, "no plain braces"
        if isinstance(node, ast.Compare):
            sides = [node.left] + node.comparators
            if any(isinstance(op, (ast.Is, ast.IsNot)) for op in node.ops):
                if not any(isinstance(side, ast.Constant) and side.value in (None, True, False) for side in sides):
                    yield "L20", node.lineno, "is without None, True or False"


def check_names(tree):
    for name, line in bound_names(tree):
        if not re.fullmatch("[A-Za-z][A-Za-z0-9_]*", name) and name not in DUNDERS:
            yield "L12", line, name
        if name in PYTHON_NAMES and not is_method(tree, name):
            yield "L15", line, f"{name} is a name of Python's own"
        if name in UNUSED or name in UNUSED_NAMES:
            yield "L17", line, name
    outer = {name for node in tree.body for name in names_of_imports_and_classes(node)}
    for node in ast.walk(tree):
        if isinstance(node, ast.arg) and node.arg in outer:
            yield "L15", node.lineno, f"{node.arg} is called like a class or an import"
        if isinstance(node, ast.Name) and not isinstance(node.ctx, ast.Load) and node.id in outer:
            yield "L15", node.lineno, f"{node.id} is called like a class or an import"
        if isinstance(node, ast.Name) and isinstance(node.ctx, ast.Load):
            if node.id in PYTHON_NAMES and node.id not in OWN_NAMES:
                yield "L8", node.lineno, node.id
            if node.id in UNUSED or node.id in UNUSED_NAMES:
                yield "L17", node.lineno, node.id
        if isinstance(node, ast.Attribute) and (node.attr in UNUSED or node.attr in ("format", "format_map")):
            yield "L17", node.lineno, node.attr


def is_method(tree, name):
    return any(isinstance(node, ast.FunctionDef) and node.name == name and isinstance(parent, ast.ClassDef)
               for node, parent in walk_with_parents(tree))


def names_of_imports_and_classes(node):
    if isinstance(node, ast.ClassDef):
        return [node.name]
    if isinstance(node, ast.ImportFrom):
        return [alias.asname or alias.name for alias in node.names]
    return []


def check_calls(tree):
    defined = {node.name for node in ast.walk(tree) if isinstance(node, ast.FunctionDef)}
    for node, parent in walk_with_parents(tree):
        if isinstance(node, ast.Attribute):
            called = isinstance(parent, ast.Call) and parent.func is node
            if called and node.attr not in METHODS | defined:
                yield "L25", node.lineno, node.attr
            if not called and node.attr in TAKEN - VALUES_ALLOWED:
                yield "L26", node.lineno, node.attr
            if isinstance(node.ctx, ast.Store) and not isinstance(node.value, ast.Name):
                yield "L18", node.lineno, "a value that is not given through a local name"
        if isinstance(node, ast.Name) and node.id in OWN_NAMES and isinstance(node.ctx, ast.Load):
            if not (isinstance(parent, ast.Call) or isinstance(parent, (ast.keyword, ast.Raise, ast.ClassDef, ast.Tuple))):
                yield "L22", node.lineno, f"{node.id} is kept as a value"
        if isinstance(node, ast.Call):
            name = called_name(node)
            told = {keyword.arg for keyword in node.keywords}
            if (name in PYTHON_NAMES or called_method(node) in METHODS) and told - KEYWORDS.get(name, set()):
                yield "L22", node.lineno, "a keyword"
            if any(keyword.arg == "key" and not is_key(keyword.value, defined) for keyword in node.keywords):
                yield "L22", node.lineno, "a key that is no own def, lambda or name of Python's own"
            if (name in WALKED or called_method(node) in WALKED_METHODS) and not is_walked(node, parent):
                yield "L23", node.lineno, "not walked on the spot"


def is_key(node, defined):
    return isinstance(node, ast.Lambda) or (isinstance(node, ast.Name) and node.id in KEYS | defined)


def is_walked(node, parent):
    if isinstance(parent, (ast.For, ast.comprehension)):
        return parent.iter is node
    return called_name(parent) in WALKERS or called_method(parent) == "join"


def check_walks(tree):
    """What a loop walks is not changed in it."""
    for loop in ast.walk(tree):
        if not isinstance(loop, ast.For):
            continue
        walked = {ast.dump(part) for part in ast.walk(loop.iter) if isinstance(part, (ast.Name, ast.Attribute))}
        for node in [inner for part in loop.body for inner in ast.walk(part)]:
            if called_method(node) in CHANGING and ast.dump(node.func.value) in walked:
                yield "L23", node.lineno, "what is walked is changed"
            if isinstance(node, ast.Subscript) and isinstance(node.ctx, ast.Store) and ast.dump(node.value) in walked:
                yield "L23", node.lineno, "what is walked is changed"


def check_file(text):
    """The findings in the text of one file of the package."""
    tree = ast.parse(text)
    findings = list(check_text(text))
    for check in (check_top, check_kept_values, check_statements, check_functions, check_classes, check_expressions,
                  check_names, check_calls, check_walks):
        findings += check(tree)
    return findings


def check_imports(texts):
    """The findings in what the files, by name, draw from one another."""
    findings = []
    draws = {}
    trees = {name: ast.parse(text) for name, text in texts.items()}
    for name, tree in trees.items():
        draws[name] = set()
        for node in ast.walk(tree):
            if not isinstance(node, ast.ImportFrom):
                continue
            parts = (node.module or "").split(".")
            if node.level or len(parts) != 2 or parts[0] != PACKAGE or parts[1] not in texts or node not in tree.body:
                findings.append(("L2", node.lineno, f"{name}: not one of the package's own files, or not at the top"))
                continue
            draws[name].add(parts[1])
            defined = defined_at_top(trees[parts[1]])
            if any(alias.name not in defined or alias.asname for alias in node.names):
                findings.append(("L16", node.lineno, f"{name}: not from the very file that defines it"))
    return findings + check_cycles(draws)


def defined_at_top(tree):
    names = {node.name for node in tree.body if isinstance(node, (ast.FunctionDef, ast.ClassDef))}
    assigned = [node for node in tree.body if isinstance(node, ast.Assign)]
    return names | {target.id for node in assigned for target in node.targets if isinstance(target, ast.Name)}


def check_cycles(draws):
    findings = []
    for name in draws:
        reached = set()
        waiting = list(draws[name])
        while waiting:
            other = waiting.pop()
            if other not in reached:
                reached.add(other)
                waiting += draws[other]
        if name in reached:
            findings.append(("L16", 1, f"{name} draws from itself"))
    return findings


def check_drawn_classes(texts):
    """A class that is drawn from another file is not kept, handed on or shown there either."""
    trees = {name: ast.parse(text) for name, text in texts.items()}
    classes = {node.name for tree in trees.values() for node in tree.body if isinstance(node, ast.ClassDef)}
    return [("L18", node.lineno, f"{name}: {node.id}") for name, tree in trees.items()
            for node, parent in walk_with_parents(tree)
            if isinstance(node, ast.Name) and node.id in classes and not is_use_of_a_class(node, parent)]


def check_methods_and_values(texts):
    """No name is a method in one class and a value in another."""
    methods, values = set(), set()
    for text in texts.values():
        for node, parent in walk_with_parents(ast.parse(text)):
            if isinstance(node, ast.FunctionDef) and isinstance(parent, ast.ClassDef):
                methods.add(node.name)
            if isinstance(node, ast.Attribute) and isinstance(node.ctx, ast.Store):
                values.add(node.attr)
    return [("L18", 1, name) for name in sorted(methods & values)]


def check_folder(names):
    """The findings in the names of what lies in the package's folder."""
    findings = []
    for name in names:
        stem, dot, ending = name.rpartition(".")
        if ending != "py" or not re.fullmatch("[a-z0-9_]+", stem):
            findings.append(("L1", 1, name))
        if stem in FILE_NAMES_OUT or stem.startswith("test_") or stem in PYTHON_NAMES or WORDS.fullmatch(stem):
            findings.append(("L14", 1, name))
    if "__init__.py" not in names:
        findings.append(("L14", 1, "no __init__.py"))
    return findings
