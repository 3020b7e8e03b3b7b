"""Finds where a package leaves the part of Python that LANGUAGE.md tells, rule by rule.

faults(files) takes a dict of file names within the package and their texts,
and gives (rule, file, line) for each place. Where a rule allows more than
this program needs, the narrower form is asked for: no errors raised or taken,
no lambda and no def within a def, no keyword in a call, no isinstance, and of
the methods with two underscores __init__ alone.
"""

import ast
import builtins
import re

PACKAGE = "benchturns"
CALLABLE = ("len range enumerate zip min max sum abs sorted reversed int str bool list tuple dict set frozenset "
            "ord repr any all divmod").split()
ERRORS = ("Exception ValueError TypeError KeyError IndexError LookupError ZeroDivisionError ArithmeticError OverflowError "
          "RuntimeError NotImplementedError AttributeError StopIteration").split()
METHODS = ("append clear copy count endswith extend find get index insert isalnum isalpha isdigit islower isspace isupper "
           "items join keys ljust lower lstrip partition pop remove replace reverse rfind rjust rpartition rsplit rstrip "
           "setdefault split splitlines startswith strip update upper values zfill bit_length").split()
CHANGING = "append clear extend insert pop remove reverse setdefault update".split()
VALUES_ALSO = "count index title find get join lower upper split strip copy add".split()
DUNDERS = ["__init__"]
WALKED = "zip enumerate reversed range".split()
WALKERS = "list tuple dict sorted sum any all enumerate zip min max".split()
NOWHERE = "register mro elements open input version_info with_traceback add_note format format_map".split()
NOT_NAMES = ("attrgetter breakpoint builtins compile copyright credits delattr dir eval exec exit gc getattr globals hasattr "
             "help id importlib license locals methodcaller os quit setattr super type vars sys print chr").split()
WORDS = ("type typing typing_extensions enum Enum IntEnum StrEnum Flag IntFlag Generic Protocol ABC ABCMeta namedtuple "
         "NamedTuple TypedDict TYPE_CHECKING abstractmethod").split()
PARTS_OF_WORDS = ("dataclass", "overload", "contextmanager")
NO_FILES = "test tests testing site conftest sitecustomize usercustomize".split() + WORDS
STATEMENTS = (ast.Assign, ast.AugAssign, ast.If, ast.While, ast.For, ast.Return, ast.Break, ast.Continue, ast.Pass, ast.Expr,
              ast.FunctionDef)
EXPRESSIONS = (ast.Constant, ast.List, ast.Tuple, ast.Dict, ast.Set, ast.BinOp, ast.UnaryOp, ast.BoolOp, ast.Compare,
               ast.IfExp, ast.Call, ast.Attribute, ast.Subscript, ast.Slice, ast.ListComp, ast.JoinedStr, ast.FormattedValue,
               ast.Name)
OWN_OF_PYTHON = {name for kind in (str, int, list, tuple, dict, set, frozenset, bytes) for name in vars(kind)}
PLAIN_NAME = re.compile(r"[A-Za-z][A-Za-z0-9_]*\Z")


class File:
    def __init__(self, name, text):
        self.name = name
        self.text = text
        self.tree = ast.parse(text)
        self.module = PACKAGE + "." + name[:-3].replace("/", ".")
        for node in ast.walk(self.tree):
            for child in ast.iter_child_nodes(node):
                child.above = node
        self.nodes = [node for node in ast.walk(self.tree) if node is not self.tree]
        self.imports = [alias.name for node in self.tree.body if isinstance(node, ast.ImportFrom) for alias in node.names]
        self.classes = [node.name for node in self.tree.body if isinstance(node, ast.ClassDef)]
        self.top = [name for node in self.tree.body for name in bound_at_top(node)]

    def of(self, *kinds):
        return [node for node in self.nodes if isinstance(node, kinds)]


def bound_at_top(node):
    if isinstance(node, (ast.FunctionDef, ast.ClassDef)):
        return [node.name]
    if isinstance(node, ast.ImportFrom):
        return [alias.name for alias in node.names]
    if isinstance(node, ast.Assign):
        return [target.id for target in node.targets if isinstance(target, ast.Name)]
    return []


def is_docstring(node):
    body = getattr(node.above, "body", [None])
    return body[0] is node and isinstance(node.value, ast.Constant) and isinstance(node.value.value, str)


def is_plain(node, functions):
    if isinstance(node, ast.Constant):
        return node.value is None or isinstance(node.value, (int, str))
    if isinstance(node, ast.UnaryOp):
        return isinstance(node.op, ast.USub) and isinstance(node.operand, ast.Constant) and type(node.operand.value) is int
    if isinstance(node, (ast.List, ast.Tuple)):
        return all(is_plain(part, functions) for part in node.elts)
    if isinstance(node, ast.Dict):
        return all(part is not None and is_plain(part, functions) for part in node.keys + node.values)
    return isinstance(node, ast.Name) and node.id in functions


def called(node):
    return node.func.id if isinstance(node, ast.Call) and isinstance(node.func, ast.Name) else None


def method_called(node):
    return node.func.attr if isinstance(node, ast.Call) and isinstance(node.func, ast.Attribute) else None


def file_names(name):
    last = name.split("/")[-1]
    if last == "__init__.py":
        return
    if not re.fullmatch(r"[a-z][a-z0-9_]*\.py", last):
        yield "L1", 1
    elif last[:-3] in NO_FILES or last.startswith("test_") or hasattr(builtins, last[:-3]):
        yield "L14", 1


def signs_and_sizes(file):
    rows = file.text.split("\n")
    for number, row in enumerate(rows, 1):
        if len(row) > 120:
            yield "L10", number
        if any(not " " <= sign <= "~" for sign in row):
            yield "L14", number
        found = re.findall(r"\w+", row)
        if any(word in WORDS for word in found) or any(part in row.lower() for part in PARTS_OF_WORDS):
            yield "L17", number
    if len(file.text.splitlines()) > 400:
        yield "L10", len(rows)
    for node in file.of(ast.FunctionDef):
        if node.end_lineno - node.lineno + 1 > 40:
            yield "L10", node.lineno


def imports(file, files):
    for node in file.of(ast.Import):
        yield "L2", node.lineno
    for node in file.of(ast.ImportFrom):
        if node.module == "__future__":
            continue
        source = [other for other in files if other.module == node.module]
        if node.level or node.above is not file.tree or not source:
            yield "L2", node.lineno
            continue
        for alias in node.names:
            if alias.name not in source[0].top or alias.name in source[0].imports or alias.asname:
                yield "L16", node.lineno


def circles(files):
    drawn = {}
    for file in files:
        drawn[file.module] = {node.module for node in file.of(ast.ImportFrom)}
    for file in files:
        reached, fresh = set(), {file.module}
        while fresh:
            fresh = {later for module in fresh for later in drawn.get(module, ())} - reached
            reached |= fresh
        if file.module in reached:
            yield "L16", file.name, 1


def top_of_module(file):
    functions, bound = [], []
    for node in file.tree.body:
        for name in bound_at_top(node):
            if name in bound:
                yield "L15", node.lineno
            bound.append(name)
        if isinstance(node, ast.FunctionDef):
            functions.append(node.name)
        elif isinstance(node, ast.Expr):
            if not is_docstring(node):
                yield "L3", node.lineno
        elif isinstance(node, ast.Assign):
            one_name = len(node.targets) == 1 and isinstance(node.targets[0], ast.Name)
            if not one_name or not is_plain(node.value, functions):
                yield "L3", node.lineno
            if isinstance(node.value, (ast.List, ast.Dict)):
                if any(isinstance(part, (ast.List, ast.Dict)) for part in ast.walk(node.value) if part is not node.value):
                    yield "L15", node.lineno
        elif not isinstance(node, (ast.ClassDef, ast.ImportFrom, ast.Import)):
            yield "L3", node.lineno


def lists_of_the_top(file):
    kept = [node.targets[0].id for node in file.tree.body
            if isinstance(node, ast.Assign) and isinstance(node.value, (ast.List, ast.Dict))]
    for node in file.of(ast.Name):
        if node.id not in kept or node.above in file.tree.body:
            continue
        above = node.above
        indexed = isinstance(above, ast.Subscript) and above.value is node and isinstance(above.ctx, ast.Load)
        walked = isinstance(above, (ast.For, ast.comprehension)) and above.iter is node
        asked = isinstance(above, ast.Compare) or called(above) in CALLABLE
        method = isinstance(above, ast.Attribute) and above.attr in ("get", "items", "keys", "values", "index", "count")
        if not (indexed or walked or asked or method):
            yield "L15", node.lineno


def functions_and_classes(file):
    for node in file.of(ast.FunctionDef):
        args = node.args
        if not isinstance(node.above, (ast.Module, ast.ClassDef)):
            yield "L4", node.lineno
        if args.vararg or args.kwarg or args.kwonlyargs or args.posonlyargs or getattr(node, "decorator_list", None):
            yield "L4", node.lineno
        if any(not is_plain(value, []) for value in args.defaults):
            yield "L4", node.lineno
        if getattr(node, "returns", None) or any(arg.annotation for arg in args.args):
            yield "L21", node.lineno
    for node in file.of(ast.AnnAssign):
        yield "L21", node.lineno
    for node in file.of(ast.ClassDef):
        if node.above is not file.tree:
            yield "L15", node.lineno
        if node.decorator_list or node.keywords or len(node.bases) > 1:
            yield "L5", node.lineno
        for base in node.bases:
            if not isinstance(base, ast.Name) or base.id not in file.top + ERRORS or base.id in ("StopIteration", "AttributeError"):
                yield "L18", node.lineno
        methods = [part.name for part in node.body if isinstance(part, ast.FunctionDef)]
        if len(methods) != len(set(methods)):
            yield "L18", node.lineno
        if len(methods) != len(node.body):
            yield "L5", node.lineno
        if any(name.startswith("__") and name not in DUNDERS for name in methods):
            yield "L5", node.lineno


def statements(file):
    for node in file.of(ast.stmt):
        if isinstance(node.above, ast.Module) or isinstance(node, ast.ClassDef):
            continue
        if isinstance(node, (ast.Try, ast.Raise)):
            yield "L19", node.lineno
        elif not isinstance(node, STATEMENTS):
            yield "L6", node.lineno
        elif isinstance(node, ast.Expr) and not isinstance(node.value, ast.Call) and not is_docstring(node):
            yield "L6", node.lineno
        elif isinstance(node, ast.Assign) and len(node.targets) > 1:
            yield "L6", node.lineno
        elif isinstance(node, (ast.For, ast.While)) and node.orelse:
            yield "L6", node.lineno


def expressions(file):
    for node in file.of(ast.expr):
        if not isinstance(node, EXPRESSIONS):
            yield "L7", node.lineno
        elif isinstance(node, ast.Constant) and not (node.value is None or isinstance(node.value, (int, str))):
            yield "L7", node.lineno
        elif isinstance(node, ast.BinOp) and isinstance(node.op, (ast.Div, ast.MatMult)):
            yield "L7", node.lineno
        elif isinstance(node, ast.ListComp) and (len(node.generators) > 1 or len(node.generators[0].ifs) > 1):
            yield "L7", node.lineno
        elif isinstance(node, ast.FormattedValue) and (not isinstance(node.value, ast.Name) or node.format_spec):
            yield "L7", node.lineno
        elif isinstance(node, ast.Dict) and None in node.keys:
            yield "L7", node.lineno
    for node in file.of(ast.AugAssign):
        if isinstance(node.op, (ast.Div, ast.MatMult)):
            yield "L7", node.lineno
    for node in file.of(ast.Compare):
        for op, right in zip(node.ops, node.comparators):
            single = isinstance(right, ast.Constant) and right.value in (None, True, False) and type(right.value) is not int
            if isinstance(op, (ast.Is, ast.IsNot)) and not single:
                yield "L20", node.lineno


def numbers_and_texts(file):
    for node in file.of(ast.BinOp):
        if isinstance(node.op, ast.Pow):
            power = node.right.value if isinstance(node.right, ast.Constant) else None
            if type(power) is not int or not 0 <= power <= 64:
                yield "L27", node.lineno
    for node in file.of(ast.Constant):
        if isinstance(node.value, str) and "%" in node.value:
            yield "L27", node.lineno
        written = ast.get_source_segment(file.text, node) or ""
        if isinstance(node.value, str) and re.search(r"\\[^nt\\'\"]", written.replace("\\\\", "")):
            yield "L27", node.lineno
    for node in file.of(ast.Set):
        asked = isinstance(node.above, ast.Compare) and isinstance(node.above.ops[0], (ast.In, ast.NotIn))
        if len(node.elts) > 2 and not asked:
            yield "L13", node.lineno


def names_bound(file):
    for node in file.of(ast.Name):
        if not isinstance(node.ctx, ast.Load):
            yield node.id, node
    for node in file.of(ast.arg):
        yield node.arg, node
    for node in file.of(ast.FunctionDef):
        if not isinstance(node.above, ast.ClassDef):
            yield node.name, node
    for node in file.of(ast.ClassDef):
        yield node.name, node


def names(file, classes):
    bound = list(names_bound(file))
    for name, node in bound:
        if not PLAIN_NAME.match(name) and name not in ("__all__", "__version__"):
            yield "L12", node.lineno
        if hasattr(builtins, name):
            yield "L15", node.lineno
        if isinstance(node, (ast.Name, ast.arg)) and node.above not in file.tree.body and name in file.imports + file.classes:
            yield "L15", node.lineno
    known = [name for name, node in bound] + file.imports + CALLABLE + ERRORS
    for node in file.of(ast.Name):
        if node.id in NOT_NAMES or node.id in NOWHERE:
            yield "L17", node.lineno
        elif node.id not in known:
            yield "L8", node.lineno
        is_called = isinstance(node.above, ast.Call) and node.above.func is node
        if node.id in CALLABLE and not is_called:
            yield "L22", node.lineno
        if node.id in classes and not is_called and not isinstance(node.above, ast.ClassDef):
            yield "L18", node.lineno


def calls(file):
    for node in file.of(ast.Call):
        name = called(node)
        if node.keywords:
            yield "L22", node.lineno
        if name in WALKED or method_called(node) in ("items", "keys", "values"):
            above = node.above
            walked = isinstance(above, (ast.For, ast.comprehension)) and above.iter is node
            inside = called(above) in WALKERS and node in above.args
            text = method_called(above) == "join" and isinstance(above.func.value, ast.Constant)
            if not (walked or inside or text):
                yield "L23", node.lineno
        if name in ("set", "frozenset"):
            above = node.above
            while isinstance(above, ast.BinOp):
                above = above.above
            if not (isinstance(above, ast.Compare) or called(above) in ("sorted", "len") and not above.keywords):
                yield "L24", node.lineno


def changed_names(loop):
    for node in ast.walk(ast.Module(body=loop.body, type_ignores=[])):
        if method_called(node) in CHANGING:
            yield ast.dump(node.func.value), node
        if isinstance(node, ast.Subscript) and not isinstance(node.ctx, ast.Load):
            yield ast.dump(node.value).replace("Store()", "Load()"), node


def loops(file):
    for loop in file.of(ast.For):
        walked = [loop.iter]
        if called(loop.iter) in WALKED:
            walked = loop.iter.args
        elif method_called(loop.iter) in ("items", "keys", "values"):
            walked = [loop.iter.func.value]
        for name, node in changed_names(loop):
            if name in [ast.dump(part) for part in walked]:
                yield "L23", node.lineno


def attributes(file, methods, kept):
    for node in file.of(ast.Attribute):
        is_call = isinstance(node.above, ast.Call) and node.above.func is node
        if node.attr in NOWHERE:
            yield "L17", node.lineno
        elif not PLAIN_NAME.match(node.attr) and node.attr not in DUNDERS:
            yield "L12", node.lineno
        elif is_call and node.attr not in METHODS + methods + DUNDERS:
            yield "L25", node.lineno
        elif not is_call and node.attr not in kept:
            yield "L25", node.lineno
        if not isinstance(node.ctx, ast.Load):
            if node.attr in methods:
                yield "L18", node.lineno
            if not isinstance(node.value, ast.Name) or node.value.id in file.top:
                yield "L18", node.lineno
            if node.attr in OWN_OF_PYTHON and node.attr not in VALUES_ALSO:
                yield "L26", node.lineno


def own_methods(file):
    for node in file.of(ast.FunctionDef):
        if not isinstance(node.above, ast.ClassDef) or node.name in DUNDERS:
            continue
        if not PLAIN_NAME.match(node.name):
            yield "L12", node.lineno
        if node.name in NOWHERE:
            yield "L17", node.lineno
        elif node.name in OWN_OF_PYTHON and node.name not in METHODS + ["add", "discard"]:
            yield "L26", node.lineno


def methods_with_underscores(file):
    for node in file.of(ast.FunctionDef):
        if node.name.startswith("__") and node.name not in DUNDERS:
            yield "L28", node.lineno
        elif node.name == "__init__" and any(isinstance(part, ast.Return) and part.value for part in ast.walk(node)):
            yield "L28", node.lineno


def faults(files):
    found = []
    for name in files:
        found += [(rule, name, line) for rule, line in file_names(name)]
    read = [File(name, text) for name, text in files.items()]
    methods = [node.name for file in read for node in file.of(ast.FunctionDef) if isinstance(node.above, ast.ClassDef)]
    classes = [name for file in read for name in file.classes]
    kept = [node.attr for file in read for node in file.of(ast.Attribute) if not isinstance(node.ctx, ast.Load)]
    checks = (signs_and_sizes, top_of_module, lists_of_the_top, functions_and_classes, statements, expressions,
              numbers_and_texts, calls, loops, own_methods, methods_with_underscores)
    for file in read:
        for check in checks:
            found += [(rule, file.name, line) for rule, line in check(file)]
        found += [(rule, file.name, line) for rule, line in imports(file, read)]
        found += [(rule, file.name, line) for rule, line in names(file, classes)]
        found += [(rule, file.name, line) for rule, line in attributes(file, methods, kept)]
    return found + list(circles(read))
