"""A check for each rule of ../shared/LANGUAGE.md, as far as a script can tell: RULES names them.

Where a rule says what is best, or where the package needs less than a rule allows, the check asks for that:
no annotations, no methods with two underscores but __init__, and sets only within sorted, len or a comparison.
"""

import ast
import builtins
import re

PACKAGE = "plotversions"

FUNCTIONS = (
    "len range enumerate zip min max sum abs sorted reversed int str bool list tuple dict set frozenset isinstance "
    "ord repr any all divmod"
).split()
ERRORS = (
    "Exception ValueError TypeError KeyError IndexError LookupError ZeroDivisionError ArithmeticError OverflowError "
    "RuntimeError NotImplementedError AttributeError StopIteration"
).split()
NEVER_CAUGHT = (
    "Exception TypeError ArithmeticError OverflowError RuntimeError NotImplementedError AttributeError"
).split()
METHODS = (
    "append clear copy count endswith extend find get index insert isalnum isalpha isdigit islower isspace isupper "
    "items join keys ljust lower lstrip partition pop remove replace reverse rfind rjust rpartition rsplit rstrip "
    "setdefault split splitlines startswith strip update upper values zfill bit_length"
).split()
CHANGING = "append clear extend insert pop remove reverse setdefault update".split()
FREE_VALUES = "count index title find get join lower upper split strip copy add".split()
NO_VALUES = "items keys values pop update append clear extend insert remove reverse setdefault sort args encode format"
NEVER_NAMED = (
    "register mro elements open input version_info with_traceback add_note f_back f_locals f_globals f_code f_builtins "
    "tb_next tb_frame tb_lineno co_names co_code co_consts co_varnames gi_frame cr_frame format_map"
).split()
NOT_AS_NAMES = (
    "attrgetter breakpoint builtins compile copyright credits delattr dir eval exec exit gc getattr globals hasattr "
    "help id importlib license locals methodcaller os quit setattr super type vars"
).split()
WORDS = (
    "type typing typing_extensions enum Enum IntEnum StrEnum Flag IntFlag Generic Protocol ABC ABCMeta namedtuple "
    "NamedTuple TypedDict TYPE_CHECKING abstractmethod"
).split()
PARTS_OF_WORDS = ("dataclass", "overload", "contextmanager")
NO_FILE_NAMES = "test tests testing site conftest sitecustomize usercustomize".split()
KEYWORDS = {
    "sorted": ("key", "reverse"), "min": ("key", "default"), "max": ("key", "default"), "sum": ("start",),
    "enumerate": ("start",), "zip": ("strict",),
}
KEYS = "len int str abs sum min max tuple".split()
WALKED_AT_ONCE = ("zip", "enumerate", "reversed", "range")
WALKERS = "list tuple dict sorted sum any all enumerate zip min max".split()
STATEMENTS = (
    ast.Assign, ast.AugAssign, ast.If, ast.While, ast.For, ast.Return, ast.Break, ast.Continue, ast.Pass, ast.Raise,
    ast.Try, ast.Expr, ast.FunctionDef, ast.ClassDef, ast.ImportFrom, ast.Import,
)
EXPRESSIONS = (
    ast.Constant, ast.Name, ast.List, ast.Tuple, ast.Dict, ast.Set, ast.BinOp, ast.UnaryOp, ast.BoolOp, ast.Compare,
    ast.IfExp, ast.Call, ast.Attribute, ast.Subscript, ast.Slice, ast.ListComp, ast.JoinedStr, ast.FormattedValue,
    ast.Lambda,
)


class Package:
    """Files by their path below the package's folder; `trees` holds those that are Python."""

    def __init__(self, files):
        self.files = files
        self.trees = {path: with_parents(ast.parse(text)) for path, text in files.items() if path.endswith(".py")}

    def nodes(self, *kinds):
        for path, tree in self.trees.items():
            for node in ast.walk(tree):
                if isinstance(node, kinds):
                    yield path, node

    def classes(self):
        return {node.name for path, node in self.nodes(ast.ClassDef)}

    def methods(self):
        return [(path, cls, node) for path, cls in self.nodes(ast.ClassDef) for node in defs_in(cls)]

    def method_names(self):
        return {node.name for path, cls, node in self.methods()}

    def values(self):
        return {node.attr for path, node in self.nodes(ast.Attribute) if isinstance(node.ctx, ast.Store)}


def with_parents(tree):
    tree.parent = None
    for node in ast.walk(tree):
        for child in ast.iter_child_nodes(node):
            child.parent = node
    return tree


def read_package(folder):
    paths = [path for path in sorted(folder.rglob("*")) if path.is_file() and "__pycache__" not in path.parts]
    return Package({path.relative_to(folder).as_posix(): path.read_bytes().decode("utf-8") for path in paths})


def defs_in(node):
    return [child for child in node.body if isinstance(child, ast.FunctionDef)]


def is_main(path):
    return path == "__main__.py"


def is_name(node, *names):
    return isinstance(node, ast.Name) and node.id in names


def is_call_of(node, *names):
    return isinstance(node, ast.Call) and is_name(node.func, *names)


def is_method_call(node, *names):
    return isinstance(node, ast.Call) and isinstance(node.func, ast.Attribute) and node.func.attr in names


def is_whole_number(node):
    return isinstance(node, ast.Constant) and type(node.value) is int


def names_of_target(node):
    return [part.id for part in ast.walk(node) if isinstance(part, ast.Name) and isinstance(part.ctx, ast.Store)]


def function_around(node):
    while node is not None and not isinstance(node, (ast.FunctionDef, ast.Lambda)):
        node = node.parent
    return node


def parameters(function):
    return [argument.arg for argument in function.args.args]


def locals_of(function):
    stored = [part.id for part in ast.walk(function) if isinstance(part, ast.Name) and isinstance(part.ctx, ast.Store)]
    inner = [part for part in ast.walk(function) if isinstance(part, (ast.FunctionDef, ast.Lambda))]
    caught = [part.name for part in ast.walk(function) if isinstance(part, ast.ExceptHandler) and part.name]
    defs = [part.name for part in inner if isinstance(part, ast.FunctionDef) and part is not function]
    return stored + caught + defs + [name for part in inner for name in parameters(part)]


def bindings(tree):
    """The names bound at a file's top, each as often as it is bound."""
    bound = []
    for node in tree.body:
        if isinstance(node, (ast.FunctionDef, ast.ClassDef)):
            bound.append(node.name)
        elif isinstance(node, (ast.Import, ast.ImportFrom)):
            bound.extend(alias.asname or alias.name for alias in node.names)
        elif isinstance(node, ast.Assign):
            bound.extend(name for target in node.targets for name in names_of_target(target))
    return bound


def imported(tree):
    rows = [node for node in tree.body if isinstance(node, ast.ImportFrom)]
    return [alias.asname or alias.name for row in rows for alias in row.names]


def identifiers(package):
    for path, node in package.nodes(ast.AST):
        for field in ("id", "attr", "arg", "name", "asname"):
            name = getattr(node, field, None)
            if isinstance(name, str):
                yield path, node, name


def is_docstring(node):
    body = getattr(node.parent, "body", None)
    text = isinstance(node, ast.Expr) and isinstance(node.value, ast.Constant) and isinstance(node.value.value, str)
    return text and isinstance(node.parent, ast.Module) and body[0] is node


def files(package):
    for path in package.files:
        if not re.fullmatch(r"([A-Za-z0-9_]+/)*[A-Za-z0-9_]+\.py", path):
            yield path, 0, "not a plain name of a .py file"


def imports(package):
    for path, node in package.nodes(ast.Import, ast.ImportFrom):
        if not isinstance(node.parent, ast.Module):
            yield path, node.lineno, "import not at the top"
        names = [alias.name for alias in node.names]
        if isinstance(node, ast.Import):
            if not is_main(path) or names != ["sys"] or node.names[0].asname:
                yield path, node.lineno, "import of a whole module"
        elif node.level or "*" in names or not is_own_or_annotations(node.module, names):
            yield path, node.lineno, "import from outside the package, relative or of all"
        elif node.module.endswith("__main__"):
            yield path, node.lineno, "import from __main__"


def is_own_or_annotations(module, names):
    return module.startswith(PACKAGE + ".") or (module == "__future__" and names == ["annotations"])


def top_of_module(package):
    for path, tree in package.trees.items():
        functions = set()
        if not tree.body or not is_docstring(tree.body[0]):
            yield path, 1, "no docstring"
        for node in tree.body[1:]:
            if isinstance(node, ast.FunctionDef):
                functions.add(node.name)
            elif isinstance(node, ast.Assign):
                if not is_name(node.targets[0], *names_of_target(node)) or not is_plain(node.value, functions):
                    yield path, node.lineno, "not a plain value"
            elif not isinstance(node, (ast.Import, ast.ImportFrom, ast.ClassDef)) and not is_main_row(path, node):
                yield path, node.lineno, "not allowed at the top"


def is_main_row(path, node):
    return is_main(path) and isinstance(node, ast.If) and ast.unparse(node.test) == "__name__ == '__main__'"


def is_plain(node, functions):
    if isinstance(node, ast.UnaryOp):
        return isinstance(node.op, ast.USub) and is_whole_number(node.operand)
    if isinstance(node, (ast.List, ast.Tuple)):
        return all(is_plain(part, functions) for part in node.elts)
    if isinstance(node, ast.Dict):
        return all(part is not None and is_plain(part, functions) for part in node.keys + node.values)
    return isinstance(node, ast.Constant) or is_name(node, *functions)


def functions(package):
    for path, node in package.nodes(ast.FunctionDef, ast.Lambda):
        taken = node.args
        if taken.vararg or taken.kwarg or taken.kwonlyargs or taken.posonlyargs:
            yield path, node.lineno, "parameters that aren't plain"
        if not all(isinstance(default, ast.Constant) for default in taken.defaults):
            yield path, node.lineno, "a default that isn't plain"
        if getattr(node, "decorator_list", None):
            yield path, node.lineno, "a decorator"


def classes(package):
    for path, node in package.nodes(ast.ClassDef):
        if node.decorator_list or node.keywords or len(node.bases) > 1:
            yield path, node.lineno, "a class with a decorator, a keyword or several bases"
        if not all(isinstance(base, ast.Name) and base.id in package.classes() | set(ERRORS) for base in node.bases):
            yield path, node.lineno, "a base that isn't the package's own or an error class"
        if len(defs_in(node)) != len([part for part in node.body if not isinstance(part, ast.Pass)]):
            yield path, node.lineno, "something else than methods in a class"


def statements(package):
    for path, node in package.nodes(ast.stmt):
        if not isinstance(node, STATEMENTS):
            yield path, node.lineno, "a statement that isn't allowed"
        if isinstance(node, (ast.For, ast.While)) and node.orelse:
            yield path, node.lineno, "else behind a loop"
        if isinstance(node, ast.Assign) and len(node.targets) > 1:
            yield path, node.lineno, "several targets"
        if isinstance(node, ast.Try) and (node.finalbody or any(handler.type is None for handler in node.handlers)):
            yield path, node.lineno, "finally, or except without a class"
        if isinstance(node, ast.Expr) and not isinstance(node.value, ast.Call) and not is_docstring(node):
            yield path, node.lineno, "an expression by itself"


def expressions(package):
    for path, node in package.nodes(ast.expr):
        if not isinstance(node, EXPRESSIONS):
            yield path, node.lineno, "an expression that isn't allowed"
        if isinstance(node, ast.Constant) and type(node.value) not in (int, str, bool, type(None)):
            yield path, node.lineno, "a value that isn't allowed"
        if isinstance(node, ast.BinOp) and isinstance(node.op, (ast.Div, ast.MatMult)):
            yield path, node.lineno, "an operator that isn't allowed"
        if isinstance(node, ast.ListComp) and (len(node.generators) > 1 or len(node.generators[0].ifs) > 1):
            yield path, node.lineno, "a comprehension with several for or if"
        if isinstance(node, ast.FormattedValue) and not is_plain_in_text(node):
            yield path, node.lineno, "an f-string with more than a name"
        if isinstance(node, ast.Dict) and None in node.keys:
            yield path, node.lineno, "stars in a dict"
    for path, node in package.nodes(ast.keyword):
        if node.arg is None:
            yield path, node.value.lineno, "stars in a call"


def is_plain_in_text(node):
    return isinstance(node.value, ast.Name) and node.conversion in (-1, ord("r")) and node.format_spec is None


def own_names_of_python(package):
    for path, tree in package.trees.items():
        allowed = set(FUNCTIONS) | set(ERRORS) | ({"print", "sys", "__name__"} if is_main(path) else set())
        known = allowed | set(bindings(tree))
        for node in ast.walk(tree):
            if isinstance(node, ast.Name) and isinstance(node.ctx, ast.Load) and node.id not in known:
                outer = outermost_function(node)
                if outer is None or node.id not in locals_of(outer):
                    yield path, node.lineno, f"{node.id} is not a name that may be used"
    for path, node, name in identifiers(package):
        if name.startswith("__") and name not in ("__init__", "__name__", "__all__", "__version__"):
            yield path, getattr(node, "lineno", 0), f"{name} begins with two underscores"
        if isinstance(node, ast.Attribute) and name in ("format", "format_map", "mro"):
            yield path, node.lineno, f"an attribute called {name}"


def outermost_function(node):
    found = None
    while node is not None:
        found = node if isinstance(node, (ast.FunctionDef, ast.Lambda)) else found
        node = node.parent
    return found


def in_and_out(package):
    for path, node in package.nodes(ast.Name):
        if node.id in ("print", "sys") and not is_main(path):
            yield path, node.lineno, "reading or printing"


def sizes(package):
    for path, text in package.files.items():
        rows = text.split("\n")
        if len(rows) - (rows[-1] == "") > 399:
            yield path, len(rows), "more than 399 lines"
        for number, row in enumerate(rows, 1):
            if len(row) > 120 or "\t" in row:
                yield path, number, "more than 120 signs, or a tab"
    for path, node in package.nodes(ast.FunctionDef):
        if node.end_lineno - node.lineno + 1 > 40:
            yield path, node.lineno, "more than 40 lines in a function"


def order_of_sets(package):
    for path, node in package.nodes(ast.For, ast.comprehension):
        if isinstance(node.iter, ast.Set) or is_call_of(node.iter, "set", "frozenset"):
            yield path, node.iter.lineno, "a walk through a set"


def plain_names(package):
    for path, node, name in identifiers(package):
        if not re.fullmatch(r"[A-Za-z][A-Za-z0-9_]*|__init__|__name__|__all__|__version__", name):
            yield path, getattr(node, "lineno", 0), f"{name} is not a plain name"


def two_forms(package):
    for path, node in package.nodes(ast.Set):
        if not isinstance(node.parent, ast.Compare) or not isinstance(node.parent.ops[0], (ast.In, ast.NotIn)):
            yield path, node.lineno, "a set written out"
    seen = set()
    for path, node in package.nodes(ast.Lambda):
        row = (path, node.lineno, tuple(parameters(node)))
        if row in seen:
            yield path, node.lineno, "two lambdas with the same parameters on a line"
        seen.add(row)


def files_and_signs(package):
    folders = {path.rpartition("/")[0] for path in package.files}
    for folder in folders:
        if (folder + "/__init__.py").lstrip("/") not in package.files:
            yield folder, 0, "no __init__.py"
    for path, text in package.files.items():
        for part in re.split(r"[/.]", path.removesuffix(".py")):
            if part != part.lower() or part.startswith("test_") or part in not_as_file_names():
                yield path, 0, "a file or folder with a name that isn't allowed"
        if path.endswith("/__main__.py"):
            yield path, 0, "__main__.py below the top"
        for number, row in enumerate(text.split("\n"), 1):
            if not re.fullmatch(r"[ -~]*", row):
                yield path, number, "a sign that isn't allowed"


def not_as_file_names():
    return NO_FILE_NAMES + WORDS + list(PARTS_OF_WORDS) + dir(builtins)


def names_once(package):
    for path, tree in package.trees.items():
        bound = bindings(tree)
        taken = set(imported(tree)) | {node.name for node in tree.body if isinstance(node, ast.ClassDef)}
        for name in bound:
            if bound.count(name) > 1 or name in dir(builtins):
                yield path, 1, f"{name} bound twice at the top, or a name of Python's own"
        for node in ast.walk(tree):
            if isinstance(node, ast.ClassDef) and not isinstance(node.parent, ast.Module):
                yield path, node.lineno, "a class below the top"
            if isinstance(node, (ast.FunctionDef, ast.Lambda)):
                for name in locals_of(node):
                    if name in taken or name in dir(builtins):
                        yield path, node.lineno, f"{name} is a local, and a class, an import or Python's own"
        yield from containers_of_the_top(package, path, tree)


def containers_of_the_top(package, path, tree):
    for value in containers(tree).values():
        inner = [part for part in ast.walk(value) if part is not value]
        if any(isinstance(part, (ast.List, ast.Dict, ast.Set)) for part in inner):
            yield path, value.lineno, "a list or dict within a list, dict or tuple of the top"
    kept = list(containers(tree)) + imported_containers(package, tree)
    for node in ast.walk(tree):
        if is_name(node, *kept) and isinstance(node.ctx, ast.Load) and not is_only_read(node):
            yield path, node.lineno, f"{node.id} of the top is handed on or changed"


def containers(tree):
    rows = [node for node in tree.body if isinstance(node, ast.Assign)]
    kinds = (ast.List, ast.Dict, ast.Tuple)
    return {names_of_target(row)[0]: row.value for row in rows if isinstance(row.value, kinds)}


def imported_containers(package, tree):
    found = []
    for row in [node for node in tree.body if isinstance(node, ast.ImportFrom)]:
        source = package.trees.get(file_of_module(row.module or ""))
        kept = containers(source) if source is not None else {}
        found += [alias.asname or alias.name for alias in row.names if alias.name in kept]
    return found


def is_only_read(node):
    around = node.parent
    if isinstance(around, ast.Subscript):
        return around.value is node and isinstance(around.ctx, ast.Load)
    if isinstance(around, ast.Attribute):
        return is_method_call(around.parent, "get", "items", "keys", "values", "index", "count")
    if isinstance(around, (ast.For, ast.comprehension)):
        return around.iter is node
    return isinstance(around, ast.Compare) or is_call_of(around, *FUNCTIONS)


def sources_of_imports(package):
    for path, node in package.nodes(ast.ImportFrom):
        if node.module == "__future__":
            continue
        tree = package.trees.get(file_of_module(node.module))
        for alias in node.names:
            if tree is None or alias.name not in set(bindings(tree)) - set(imported(tree)):
                yield path, node.lineno, f"{alias.name} is not defined in {node.module}"
    for path in package.trees:
        if path in reached_from(package, path):
            yield path, 1, "draws from itself in some steps"
    modules = {path.removesuffix(".py") for path in package.trees}
    for name in bindings(package.trees["__init__.py"]) if "__init__.py" in package.trees else []:
        if name in modules:
            yield "__init__.py", 1, f"{name} is bound, and a file"
    yield from interface(package)


def interface(package):
    for path, tree in package.trees.items():
        for node in tree.body:
            if isinstance(node, (ast.FunctionDef, ast.ClassDef)) and node.name == "answers" and path != "store.py":
                yield path, node.lineno, "answers in another file than store.py"
    found = [node for node in defs_in(package.trees["store.py"]) if node.name == "answers"]
    if len(found) != 1 or parameters(found[0]) != ["calls"] or found[0].args.defaults:
        yield "store.py", 1, "no plain answers(calls)"


def file_of_module(module):
    return "/".join(module.split(".")[1:]) + ".py"


def reached_from(package, start):
    reached, waiting = set(), [start]
    while waiting:
        for node in ast.walk(package.trees[waiting.pop()]):
            if isinstance(node, ast.ImportFrom) and node.module != "__future__":
                path = file_of_module(node.module)
                if path in package.trees and path not in reached:
                    reached.add(path)
                    waiting.append(path)
    return reached


def names_not_used(package):
    for path, node, name in identifiers(package):
        line = getattr(node, "lineno", 0)
        if name in NEVER_NAMED:
            yield path, line, f"{name} is not used"
        if name in NOT_AS_NAMES and not isinstance(node, ast.Attribute):
            yield path, line, f"{name} is not used as a name"
        if name in ("sys", "__name__") and isinstance(node, ast.Name) and not is_main(path):
            yield path, line, f"{name} is for __main__.py alone"
    for path, text in package.files.items():
        for number, row in enumerate(text.split("\n"), 1):
            words = re.findall(r"\w+", row)
            if any(word in WORDS for word in words) or any(part in row for part in PARTS_OF_WORDS):
                yield path, number, "a word that may stand nowhere"


def uses_of_classes(package):
    names = package.classes()
    for path, node in package.nodes(ast.Name):
        if node.id in names and not is_use_of_class(node):
            yield path, node.lineno, f"the class {node.id} is kept, handed on or shown"
    for path, node in package.nodes(ast.Attribute):
        if isinstance(node.ctx, ast.Store) and not is_through_local(node):
            yield path, node.lineno, "a value given otherwise than through a local name"
    for path, cls in package.nodes(ast.ClassDef):
        methods = [node.name for node in defs_in(cls)]
        if len(methods) != len(set(methods)):
            yield path, cls.lineno, "a method that stands twice"
        if any(is_name(base, "StopIteration", "AttributeError") for base in cls.bases):
            yield path, cls.lineno, "an error class under StopIteration or AttributeError"
    for name in package.method_names() & package.values():
        yield PACKAGE, 0, f"{name} is a method and a value"


def is_use_of_class(node):
    around = node.parent
    if isinstance(around, ast.Call):
        return around.func is node or is_name(around.func, "isinstance")
    if isinstance(around, ast.Tuple):
        around = around.parent
        return isinstance(around, ast.ExceptHandler) or is_call_of(around, "isinstance")
    if isinstance(around, ast.Attribute):
        return around.attr == "__init__"
    return isinstance(around, (ast.ClassDef, ast.ExceptHandler, ast.Raise))


def is_through_local(node):
    function = outermost_function(node)
    return isinstance(node.value, ast.Name) and function is not None and node.value.id in locals_of(function)


def errors(package):
    for path, handler in package.nodes(ast.ExceptHandler):
        caught = names_caught(handler)
        if not caught or set(caught) & set(NEVER_CAUGHT):
            yield path, handler.lineno, "an error that isn't taken"
        body = handler.parent.body
        if set(caught) & {"ValueError", "LookupError"} and not is_fit_for_value_error(body):
            yield path, handler.lineno, "ValueError or LookupError taken round something else"
        if "IndexError" in caught and not is_fit_for_index_error(body):
            yield path, handler.lineno, "IndexError taken round something else"
    for path, node in package.nodes(ast.Raise):
        if not isinstance(node.exc, ast.Call):
            yield path, node.lineno, "raise without making its error"
        if node.cause is not None and not is_none(node.cause) and not is_name(node.cause, *names_of_handlers(node)):
            yield path, node.lineno, "raise from something else than the handler's own error"


def is_none(node):
    return isinstance(node, ast.Constant) and node.value is None


def names_of_handlers(node):
    while node is not None and not isinstance(node, ast.ExceptHandler):
        node = node.parent
    return [node.name] if node is not None and node.name else []


def names_caught(handler):
    if isinstance(handler.type, ast.Tuple):
        return [part.id for part in handler.type.elts]
    return [handler.type.id] if isinstance(handler.type, ast.Name) else []


def is_fit_for_value_error(body):
    calls = [node for part in body for node in ast.walk(part) if isinstance(node, ast.Call)]
    fit = all(is_call_of(call, "int", "str") or is_method_call(call, "index", "remove") for call in calls)
    return len(body) == 1 and len(calls) > 0 and fit


def is_fit_for_index_error(body):
    nodes = [node for part in body for node in ast.walk(part)]
    unfit = (ast.Call, ast.JoinedStr, ast.BinOp, ast.Slice, ast.Lambda)
    return len(body) == 1 and not any(isinstance(node, unfit) for node in nodes)


def uses_of_is(package):
    for path, node in package.nodes(ast.Compare):
        parts = [node.left] + node.comparators
        for at, sign in enumerate(node.ops):
            if isinstance(sign, (ast.Is, ast.IsNot)) and not any(map(is_one_of_three, parts[at:at + 2])):
                yield path, node.lineno, "is beside something else than None, True or False"


def is_one_of_three(node):
    return isinstance(node, ast.Constant) and (node.value is None or isinstance(node.value, bool))


def annotations(package):
    for path, node in package.nodes(ast.arg, ast.FunctionDef, ast.AnnAssign):
        if getattr(node, "annotation", None) or getattr(node, "returns", None):
            yield path, node.lineno, "an annotation"


def calls_of_python(package):
    for path, node in package.nodes(ast.Name):
        called = isinstance(node.parent, ast.Call) and node.parent.func is node
        key = is_key(node) and node.id in KEYS
        if node.id in FUNCTIONS and not called and not key and not is_kind_of_isinstance(node):
            yield path, node.lineno, f"{node.id} is not called"
    for path, node in package.nodes(ast.Call):
        if is_name(node.func, "isinstance") and not is_plain_isinstance(node, package.classes()):
            yield path, node.lineno, "isinstance in another form"
        own = isinstance(node.func, ast.Name) and node.func.id not in FUNCTIONS + ERRORS
        own_method = isinstance(node.func, ast.Attribute) and node.func.attr not in METHODS
        allowed = KEYWORDS.get(getattr(node.func, "id", ""), ())
        for keyword in node.keywords:
            if not own and not own_method and keyword.arg not in allowed:
                yield path, node.lineno, f"the keyword {keyword.arg}"
            if not own and keyword.arg in ("reverse", "strict") and not is_written_bool(keyword.value):
                yield path, node.lineno, f"{keyword.arg} without a written True or False"


def is_written_bool(node):
    return isinstance(node, ast.Constant) and isinstance(node.value, bool)


def is_key(node):
    return isinstance(node.parent, ast.keyword) and node.parent.arg == "key"


def is_kind_of_isinstance(node):
    around = node.parent.parent if isinstance(node.parent, ast.Tuple) else node.parent
    return is_call_of(around, "isinstance")


def is_plain_isinstance(node, own):
    kinds = node.args[1].elts if isinstance(node.args[1], ast.Tuple) else [node.args[1]]
    return all(is_name(kind, "int", "str", "bool", "list", "tuple", "dict", *ERRORS, *own) for kind in kinds)


def walks(package):
    for path, node in package.nodes(ast.Call):
        walked = is_call_of(node, *WALKED_AT_ONCE) or is_method_call(node, "items", "keys", "values")
        if walked and not is_walked_on_the_spot(node):
            yield path, node.lineno, "kept instead of walked"
    for path, node in package.nodes(ast.For):
        walked = names_walked(node.iter)
        for part in [inner for row in node.body for inner in ast.walk(row)]:
            if is_change_of(part, walked):
                yield path, part.lineno, "what a loop walks is changed in it"


def is_walked_on_the_spot(node):
    around = node.parent
    if isinstance(around, (ast.For, ast.comprehension)):
        return around.iter is node
    if is_call_of(around, "min", "max"):
        return len(around.args) == 1 and around.args[0] is node
    if is_call_of(around, *WALKERS):
        return len(around.args) > 0 and around.args[0] is node
    return is_method_call(around, "join") and isinstance(around.func.value, ast.Constant)


def names_walked(node):
    if is_call_of(node, "enumerate", "zip", "reversed"):
        return [name for part in node.args for name in names_walked(part)]
    if is_method_call(node, "items", "keys", "values"):
        return names_walked(node.func.value)
    return [ast.unparse(node)] if isinstance(node, (ast.Name, ast.Attribute)) else []


def is_change_of(node, walked):
    if isinstance(node, ast.Subscript) and isinstance(node.ctx, ast.Store):
        return ast.unparse(node.value) in walked
    return is_method_call(node, *CHANGING) and ast.unparse(node.func.value) in walked


def places_of_sets(package):
    for path, node in package.nodes(ast.Call):
        if is_call_of(node, "set", "frozenset"):
            around = node.parent
            while isinstance(around, ast.BinOp) and isinstance(around.op, (ast.Sub, ast.BitAnd, ast.BitOr, ast.BitXor)):
                around = around.parent
            alone = is_call_of(around, "sorted", "len") and not around.keywords
            if not alone and not isinstance(around, ast.Compare):
                yield path, node.lineno, "a set that is kept or walked"


def methods_of_python(package):
    own = package.method_names()
    for path, node in package.nodes(ast.Attribute):
        called = isinstance(node.parent, ast.Call) and node.parent.func is node
        if called and node.attr not in METHODS and node.attr not in own | {"__init__"}:
            yield path, node.lineno, f"the method {node.attr}"
        if not called and node.attr in METHODS + list(own) and node.attr not in package.values() and not is_key(node):
            yield path, node.lineno, f"the method {node.attr} is handed on"


def own_methods_and_values(package):
    python = {name for kind in (str, int, list, dict, set, bytes) for name in dir(kind)}
    for path, cls, node in package.methods():
        if node.name in python - set(METHODS) - {"add", "discard", "__init__"}:
            yield path, node.lineno, f"a method called {node.name}"
    for name in package.values():
        if name in python - set(FREE_VALUES) or name in NO_VALUES.split():
            yield PACKAGE, 0, f"a value called {name}"


def numbers_and_texts(package):
    for path, node in package.nodes(ast.BinOp, ast.AugAssign):
        if isinstance(node.op, ast.Pow):
            power = node.right if isinstance(node, ast.BinOp) else node.value
            if not is_whole_number(power) or not 0 <= power.value <= 64:
                yield path, node.lineno, "an exponent that isn't written out"
    for path, node in package.nodes(ast.Constant):
        if isinstance(node.value, str) and "%" in node.value:
            yield path, node.lineno, "a sign % in a text"
        if is_whole_number(node) and node.value >= 10 ** 900:
            yield path, node.lineno, "a number of more than 900 digits"
    for path, node in package.nodes(ast.Name):
        if node.id == "chr":
            yield path, node.lineno, "chr"
    for path, text in package.files.items():
        for number, row in enumerate(text.split("\n"), 1):
            if re.search(r"\\(?![nt\\'\"])", row.replace("\\\\", "")):
                yield path, number, "an escape that isn't allowed"


def methods_with_underscores(package):
    for path, cls, method in package.methods():
        if method.name.startswith("__") and method.name != "__init__":
            yield path, method.lineno, f"the method {method.name}"
        if method.name == "__init__":
            for node in ast.walk(method):
                if isinstance(node, ast.Return) and node.value is not None:
                    yield path, node.lineno, "something given back in __init__"


RULES = {
    "L1": files, "L2": imports, "L3": top_of_module, "L4": functions, "L5": classes, "L6": statements,
    "L7": expressions, "L8": own_names_of_python, "L9": in_and_out, "L10": sizes, "L11": order_of_sets,
    "L12": plain_names, "L13": two_forms, "L14": files_and_signs, "L15": names_once, "L16": sources_of_imports,
    "L17": names_not_used, "L18": uses_of_classes, "L19": errors, "L20": uses_of_is, "L21": annotations,
    "L22": calls_of_python, "L23": walks, "L24": places_of_sets, "L25": methods_of_python,
    "L26": own_methods_and_values, "L27": numbers_and_texts, "L28": methods_with_underscores,
}


def findings(rule, package):
    return [f"{rule} {path}:{line} {words}" for path, line, words in RULES[rule](package)]
