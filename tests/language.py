"""What of LANGUAGE.md can be read off the code of the package by simple rules.

The rules here are narrower than the document in places: they bar what the package does not use so far.
"""

import ast
import builtins

PACKAGE = "sparkrows"
# What is used of the library, of all that the document allows.
LIBRARY = {"math": ["gcd"]}
ALLOWED_BUILTINS = set(
    "len range enumerate zip min max sum abs sorted reversed int str bool list tuple dict set isinstance repr any all"
    " divmod ValueError TypeError NotImplemented".split())
METHODS = set(
    "append clear copy count endswith extend find get index insert isalnum isalpha isdigit islower isspace isupper items"
    " join keys ljust lower lstrip partition pop remove replace reverse rfind rjust rpartition rsplit rstrip setdefault"
    " split splitlines startswith strip update upper values zfill bit_length".split())
DUNDERS = set("__init__ __eq__ __repr__ __str__ __len__ __add__ __mul__ __getitem__ __iter__".split())
BARRED_WORDS = set(
    "type typing typing_extensions enum Enum IntEnum StrEnum Flag IntFlag Generic Protocol ABC ABCMeta namedtuple"
    " NamedTuple TypedDict TYPE_CHECKING abstractmethod register mro elements open input law version_info"
    " with_traceback add_note".split())
# Names that nothing has, but words that a text may have.
WORDS_OF_TEXTS = {"open"}
CHANGING = set("append clear extend insert pop remove reverse setdefault sort update add discard".split())
STATEMENTS = (ast.Assign, ast.AugAssign, ast.If, ast.While, ast.For, ast.Return, ast.Break, ast.Continue, ast.Pass,
              ast.Raise, ast.Assert, ast.Delete, ast.Expr, ast.FunctionDef)
EXPRESSIONS = (ast.BoolOp, ast.BinOp, ast.UnaryOp, ast.IfExp, ast.Dict, ast.Set, ast.ListComp, ast.SetComp,
               ast.DictComp, ast.Compare, ast.Call, ast.JoinedStr, ast.FormattedValue, ast.Constant, ast.Attribute,
               ast.Subscript, ast.Starred, ast.Name, ast.List, ast.Tuple, ast.Slice, ast.Lambda)
FUNCTIONS = (ast.FunctionDef, ast.Lambda)


def plain_value(node):
    """Whether a value of the module level is written out."""
    if isinstance(node, ast.UnaryOp) and isinstance(node.op, ast.USub):
        node = node.operand
    if isinstance(node, (ast.Tuple, ast.List)):
        return all(plain_value(item) for item in node.elts)
    if isinstance(node, ast.Dict):
        return all(plain_value(item) for item in [*node.keys, *node.values])
    return isinstance(node, ast.Constant)


def is_docstring(node):
    return isinstance(node, ast.Expr) and isinstance(node.value, ast.Constant) and isinstance(node.value.value, str)


def docstrings(tree):
    found = []
    for node in ast.walk(tree):
        if isinstance(node, (ast.Module, ast.ClassDef, ast.FunctionDef)) and node.body and is_docstring(node.body[0]):
            found.append(node.body[0].value)
    return found


def bound_names(tree):
    """The names that a file gives a meaning to, functions, classes, parameters and variables."""
    found = [node.id for node in ast.walk(tree) if isinstance(node, ast.Name) and not isinstance(node.ctx, ast.Load)]
    found += [node.arg for node in ast.walk(tree) if isinstance(node, ast.arg)]
    methods = [item for node in ast.walk(tree) if isinstance(node, ast.ClassDef) for item in node.body]
    found += [node.name for node in ast.walk(tree)
              if isinstance(node, (ast.FunctionDef, ast.ClassDef)) and node not in methods]
    return found


def imported_names(tree):
    return [name.name for node in tree.body if isinstance(node, ast.ImportFrom) for name in node.names]


def of_text(text):
    """L10, L14: sizes and characters."""
    lines = text.split("\n")
    if len(lines) > 400:
        yield "L10 the file is too long"
    for number, line in enumerate(lines, 1):
        if len(line) > 120:
            yield f"L10 line {number} is too long"
        if any(not " " <= sign <= "~" for sign in line):
            yield f"L14 line {number} has a sign beyond ASCII"


def of_module_level(tree):
    """L2, L3, L15, L16: what stands at module level."""
    names = imported_names(tree)
    for node in tree.body:
        if isinstance(node, ast.ImportFrom):
            own = not node.level and (node.module or "").startswith(PACKAGE + ".")
            if not own and (node.level or [name.name for name in node.names] != LIBRARY.get(node.module)):
                yield f"L2 line {node.lineno}"
            if any(name.asname or name.name == "*" for name in node.names):
                yield f"L16 line {node.lineno}"
        elif isinstance(node, ast.Assign):
            if len(node.targets) != 1 or not isinstance(node.targets[0], ast.Name) or not plain_value(node.value):
                yield f"L3 line {node.lineno}"
            names.append(getattr(node.targets[0], "id", ""))
        elif isinstance(node, (ast.FunctionDef, ast.ClassDef)):
            names.append(node.name)
        elif not is_docstring(node):
            yield f"L3 line {node.lineno}"
    if len(names) != len(set(names)):
        yield "L15 a name is bound twice"


def of_library(tree):
    """L2: what comes from the library is only called, with arguments by position."""
    names = [name.name for node in tree.body if isinstance(node, ast.ImportFrom) and node.module in LIBRARY
             for name in node.names]
    called = [node.func for node in ast.walk(tree) if isinstance(node, ast.Call) and not node.keywords]
    for node in ast.walk(tree):
        if isinstance(node, ast.Name) and node.id in names and node not in called:
            yield f"L2 line {node.lineno}: {node.id}"


def of_functions(tree):
    """L4, L10, L24: size, decorators, default values, stored sets."""
    for node in ast.walk(tree):
        if isinstance(node, ast.FunctionDef):
            if node.end_lineno - node.lineno + 1 > 40:
                yield f"L10 {node.name} is too long"
            if [ast.unparse(item) for item in node.decorator_list] not in ([], ["property"]):
                yield f"L4 {node.name} is decorated"
        if isinstance(node, FUNCTIONS):
            given = [item for item in [*node.args.defaults, *node.args.kw_defaults] if item is not None]
            if any(isinstance(item, (ast.List, ast.Dict)) or not plain_value(item) for item in given):
                yield f"L4 line {node.lineno} has a default that is not plain"
        if isinstance(node, ast.Assign) and isinstance(node.value, (ast.Set, ast.SetComp)):
            yield f"L24 line {node.lineno} stores a set"


def of_classes(tree):
    """L5, L18, L28: bases, bodies, methods with double underscores."""
    for node in [node for node in ast.walk(tree) if isinstance(node, ast.ClassDef)]:
        if node not in tree.body or node.decorator_list or node.keywords or len(node.bases) > 1:
            yield f"L5 class {node.name}"
        methods = [item for item in node.body if isinstance(item, ast.FunctionDef)]
        names = [item.name for item in methods]
        if len(names) != len(set(names)):
            yield f"L18 {node.name} has a method twice"
        if [item for item in node.body if item not in methods and not is_docstring(item)]:
            yield f"L5 {node.name} has more than methods"
        if [name for name in names if name.startswith("__") and name not in DUNDERS]:
            yield f"L5 {node.name} has a method that is not allowed"
        stored = [item.attr for item in ast.walk(node)
                  if isinstance(item, ast.Attribute) and isinstance(item.ctx, ast.Store)]
        if set(stored) & set(names):
            yield f"L18 {node.name} has a name that is a method and an attribute"
        if set(stored) & {*METHODS, "args"} - {"count", "index", "find", "get", "join", "lower", "upper"}:
            yield f"L26 {node.name} has an attribute with the name of a builtin value's method"


def of_nodes(tree):
    """L6, L7, L8, L20: which statements and expressions there are."""
    top = tree.body
    for node in ast.walk(tree):
        if isinstance(node, ast.stmt) and node not in top and not isinstance(node, STATEMENTS):
            yield f"L6 line {node.lineno}: {type(node).__name__}"
        if isinstance(node, ast.expr) and not isinstance(node, EXPRESSIONS):
            yield f"L7 line {node.lineno}: {type(node).__name__}"
        if isinstance(node, ast.Constant) and isinstance(node.value, (float, complex, bytes)):
            yield f"L7 line {node.lineno}: a float or bytes"
        if isinstance(node, ast.BinOp) and isinstance(node.op, (ast.Div, ast.MatMult, ast.Pow)):
            yield f"L7 line {node.lineno}: an operator"
        if isinstance(node, ast.Compare) and any(isinstance(sign, (ast.Is, ast.IsNot)) for sign in node.ops):
            if ast.unparse(node.comparators[0]) not in ("None", "True", "False", "self"):
                yield f"L20 line {node.lineno}"
        if isinstance(node, ast.Raise) and not isinstance(node.exc, ast.Call):
            yield f"L19 line {node.lineno}"


def of_names(tree, methods):
    """L8, L12, L15, L17, L25: names and words."""
    bound, imported = bound_names(tree), imported_names(tree)
    for name in [*bound, *imported]:
        # A console, and doctest with it, keeps what it showed last among the builtins, under the name _.
        if name != "_" and (hasattr(builtins, name) or name in BARRED_WORDS):
            yield f"L15 {name} has another meaning"
    for name in [name for name in bound if name in imported]:
        yield f"L15 {name} is imported"
    texts = docstrings(tree)
    for node in ast.walk(tree):
        if isinstance(node, ast.Name) and isinstance(node.ctx, ast.Load) and hasattr(builtins, node.id):
            if node.id not in ALLOWED_BUILTINS and node.id != "property":
                yield f"L8 line {node.lineno}: {node.id}"
        if isinstance(node, ast.Attribute) and (node.attr.startswith("__") or node.attr in BARRED_WORDS):
            yield f"L17 line {node.lineno}: {node.attr}"
        if isinstance(node, ast.Constant) and isinstance(node.value, str) and node not in texts:
            words = "".join(sign if sign.isalnum() or sign == "_" else " " for sign in node.value).split()
            if "%" in node.value or (BARRED_WORDS - WORDS_OF_TEXTS) & set(words):
                yield f"L27 line {node.lineno}: a string"
        if isinstance(node, ast.Call) and isinstance(node.func, ast.Attribute):
            if node.func.attr not in METHODS and node.func.attr not in methods:
                yield f"L25 line {node.lineno}: {node.func.attr}"


def of_sets(tree):
    """L24: a set stands in len(..), sorted(..), behind `in` or beside == alone."""
    placed = []
    for node in ast.walk(tree):
        if isinstance(node, ast.Call) and isinstance(node.func, ast.Name) and node.func.id in ("len", "sorted"):
            placed += node.args
        if isinstance(node, ast.Compare):
            placed += [node.left, *node.comparators]
    for node in ast.walk(tree):
        if isinstance(node, ast.Call) and isinstance(node.func, ast.Name) and node.func.id == "set":
            if node not in placed:
                yield f"L24 line {node.lineno}"


def iterated(tree):
    """What is iterated on the spot."""
    found = [node.iter for node in ast.walk(tree) if isinstance(node, (ast.For, ast.comprehension))]
    for node in ast.walk(tree):
        if isinstance(node, ast.Call) and isinstance(node.func, ast.Name):
            if node.func.id == "zip":
                found += node.args
            if node.func.id in ("list", "tuple", "dict", "sorted", "sum", "any", "all", "enumerate"):
                found += node.args[:1]
            if node.func.id in ("min", "max", "len", "reversed") and len(node.args) == 1:
                found += node.args
    return found


def of_iterated(tree):
    """L23: ranges, zips and views are iterated on the spot."""
    placed = iterated(tree)
    for node in ast.walk(tree):
        if isinstance(node, ast.Call) and node not in placed:
            name = getattr(node.func, "id", "") if isinstance(node.func, ast.Name) else ""
            view = node.func.attr if isinstance(node.func, ast.Attribute) and not node.args else ""
            if name in ("range", "zip", "enumerate", "reversed") or view in ("items", "keys", "values"):
                yield f"L23 line {node.lineno}"


def of_indexed(text, tree):
    """L5, L17: a class with __getitem__ has an __iter__ that raises; some words do not occur beside it."""
    for node in [node for node in tree.body if isinstance(node, ast.ClassDef)]:
        methods = {item.name: item for item in node.body if isinstance(item, ast.FunctionDef)}
        if "__getitem__" in methods and "__iter__" not in methods:
            yield f"L5 {node.name} has no __iter__"
        if "__iter__" in methods:
            body = methods["__iter__"].body
            if len(body) != 1 or not ast.unparse(body[0]).startswith("raise TypeError("):
                yield f"L5 {node.name} is iterated over"
    if "(type)" in text or "Meta" in text or "metaclass=" in text:
        yield "L17 a word that does not stand beside __getitem__"


def fresh_names(function):
    """The local variables that are only ever assigned lists and dicts that the function creates."""
    kinds = {}
    for node in ast.walk(function):
        if isinstance(node, ast.Assign):
            value = node.value
            made = isinstance(value, (ast.List, ast.Dict, ast.ListComp, ast.DictComp))
            if isinstance(value, ast.Call) and isinstance(value.func, ast.Name):
                made = value.func.id in ("list", "dict", "sorted")
            for target in node.targets:
                if isinstance(target, ast.Name):
                    kinds.setdefault(target.id, []).append(made)
    return [name for name in kinds if all(kinds[name])]


def changes(function):
    """The lines of a function that change something it did not create itself."""
    fresh = fresh_names(function)
    for node in ast.walk(function):
        if isinstance(node, ast.Attribute) and isinstance(node.ctx, ast.Store):
            yield node.lineno
        if isinstance(node, ast.Subscript) and not isinstance(node.ctx, ast.Load):
            if not isinstance(node.value, ast.Name) or node.value.id not in fresh:
                yield node.lineno
        if isinstance(node, ast.AugAssign) and not isinstance(node.value, ast.Constant):
            yield node.lineno
        if isinstance(node, ast.Call) and isinstance(node.func, ast.Attribute) and node.func.attr in CHANGING:
            if not isinstance(node.func.value, ast.Name) or node.func.value.id not in fresh:
                yield node.lineno


def changes_by_operators(trees):
    """L5: what operators, properties, __eq__, __len__, and all that they call by name, change but must not."""
    functions, waiting = {}, []
    for node in [node for tree in trees for node in ast.walk(tree) if isinstance(node, ast.FunctionDef)]:
        functions.setdefault(node.name, []).append(node)
        if node.decorator_list or (node.name.startswith("__") and node.name != "__init__"):
            waiting.append(node)
    seen = []
    while waiting:
        function = waiting.pop()
        seen.append(function)
        for node in ast.walk(function):
            if isinstance(node, ast.Call):
                name = getattr(node.func, "id", getattr(node.func, "attr", ""))
                waiting += [some for some in functions.get(name, []) if some not in seen and some not in waiting]
    return [f"L5 {function.name} line {line}" for function in seen for line in changes(function)]


def complaints(text, methods=()):
    """All that is wrong with the text of one file; methods are those that the package defines."""
    tree = ast.parse(text)
    own = [item.name for node in tree.body if isinstance(node, ast.ClassDef)
           for item in node.body if isinstance(item, ast.FunctionDef)]
    return [*of_text(text), *of_module_level(tree), *of_library(tree), *of_functions(tree), *of_classes(tree),
            *of_nodes(tree), *of_names(tree, [*methods, *own]), *of_sets(tree), *of_iterated(tree),
            *of_indexed(text, tree)]
