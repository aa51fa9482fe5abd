"""What ../shared/LANGUAGE.md says of the text of the package, as far as it can be read off file by file.

`faults(package, files)` takes the name of the package and a dict from the names of its files to their texts;
it gives a list of triples of a rule, the name of a file, and a line.
"""

import ast
import builtins
import io
import re
import sys
import tokenize

DUNDERS = set("""init eq repr str len enter exit call iter lt le gt ge ne add sub mul floordiv mod pow and or xor
lshift rshift radd rsub rmul rfloordiv rmod rand ror rxor rlshift rrshift iadd isub imul ifloordiv imod ipow iand ior
ixor ilshift irshift neg pos invert abs bool contains getitem setitem""".split())
FREE_DUNDERS = {"__all__", "__version__", "__name__", "__slots__"} | {f"__{name}__" for name in DUNDERS}
BUILTINS = set("""len range enumerate zip min max sum abs sorted reversed int str bool bytes list tuple dict set
frozenset isinstance ord repr any all divmod Exception ValueError TypeError KeyError IndexError LookupError
ZeroDivisionError ArithmeticError OverflowError RuntimeError NotImplementedError AttributeError StopIteration
NotImplemented iter next super property staticmethod classmethod object""".split())
CAUGHT = {"KeyError", "ZeroDivisionError", "StopIteration", "ValueError", "LookupError", "IndexError"}
METHODS = set("""append clear copy count endswith extend find get index insert isalnum isalpha isdigit islower isspace
isupper items join keys ljust lower lstrip partition pop remove replace reverse rfind rjust rpartition rsplit rstrip
setdefault split splitlines startswith strip update upper values zfill bit_length title capitalize swapcase casefold
center expandtabs removeprefix removesuffix rindex isascii isdecimal isnumeric istitle isidentifier isprintable
translate maketrans encode decode hex from_bytes sort add discard""".split())
KEYWORDS = {"sorted": {"key", "reverse"}, "min": {"key", "default"}, "max": {"key", "default"}, "sum": {"start"},
            "enumerate": {"start"}, "zip": {"strict"}}
BARRED_ATTRIBUTES = set("""items keys values pop update append clear extend insert remove reverse setdefault sort args
encode decode hex fromhex format format_map mro as_integer_ratio bit_count conjugate from_bytes is_integer
to_bytes""".split())
FRAMES = re.compile(r"(f|tb|co|gi|cr|ag)_(back|builtins|code|globals|lasti|lineno|locals|trace|next|frame|names|"
                    r"consts|name|varnames|filename|yieldfrom|running|await)$")
BARRED_NAMES = set("register mro elements open input law version_info with_traceback add_note".split())
BARRED_VARIABLES = set("""attrgetter breakpoint builtins compile copyright credits delattr dir eval exec exit gc getattr
globals hasattr help id importlib license locals methodcaller os quit setattr super type vars sys
__name__""".split())
BARRED_WORDS = re.compile(r"\b(type|typing|typing_extensions|enum|Enum|IntEnum|StrEnum|Flag|IntFlag|Generic|Protocol|"
                          r"ABC|ABCMeta|namedtuple|NamedTuple|TypedDict|TYPE_CHECKING|abstractmethod)\b"
                          r"|dataclass|overload|contextmanager")
BARRED_FILES = re.compile(r"law_.*|test|tests|testing|test_.*|site|conftest|sitecustomize|usercustomize")
STATEMENTS = (ast.Assign, ast.AugAssign, ast.AnnAssign, ast.If, ast.While, ast.For, ast.Return, ast.Break, ast.Continue,
              ast.Pass, ast.Raise, ast.Assert, ast.Delete, ast.Nonlocal, ast.Match, ast.With, ast.Try, ast.Expr,
              ast.FunctionDef, ast.ClassDef, ast.ImportFrom)
FUNCTIONS = (ast.FunctionDef, ast.Lambda)
COMPREHENSIONS = (ast.ListComp, ast.SetComp, ast.DictComp, ast.GeneratorExp)
ON_THE_SPOT = {"zip", "enumerate", "reversed", "range", "items", "keys", "values"}
TAKES_ON_THE_SPOT = {"list", "tuple", "dict", "sorted", "sum", "any", "all", "enumerate", "zip", "bytes", "min", "max",
                     "join", "len", "reversed", "iter"}
EXIT_ROWS = (ast.Pass, ast.Return, ast.Assign, ast.AugAssign, ast.If, ast.Expr)


def faults(package, files):
    """The list of all faults found: triples of a rule, the name of a file, and a line."""
    found = [("L14", name, 0) for name in files if not good_file_name(name, files)]
    if package in sys.stdlib_module_names or len(files) > 100 or "__init__.py" not in files:
        found.append(("L14", "__init__.py", 0))
    trees = {}
    for name, text in files.items():
        found += [(rule, name, line) for rule, line in faults_in_text(text)]
        trees[name] = ast.parse(text)
    own = own_names(trees)
    for name, tree in trees.items():
        found += [(rule, name, node.lineno) for rule, node in faults_in_tree(tree, name, own)]
        found += [("L16", name, node.lineno) for node in wrong_imports(package, tree, trees)]
    found += [("L16", name, 0) for name in trees if name in reached(package, name, trees)]
    found += [("L18", "__init__.py", 0) for name in own["methods"] if name in own["attributes"]]
    return found


def good_file_name(name, files):
    stem = name.removesuffix(".py")
    if name in ("__init__.py", "__main__.py"):
        return True
    barred = BARRED_FILES.fullmatch(stem) or BARRED_WORDS.fullmatch(stem) or hasattr(builtins, stem)
    return re.fullmatch(r"[a-z][a-z0-9_]*\.py", name) is not None and not barred


def faults_in_text(text):
    lines = text.split("\n")
    found = [("L10", len(lines))] if len(text.splitlines()) > 399 else []
    for number, line in enumerate(lines, 1):
        if len(line) > 120 or "\t" in line:
            found.append(("L10", number))
        if re.search(r"[^ -~]", line):
            found.append(("L14", number))
        if BARRED_WORDS.search(line):
            found.append(("L17", number))
    for token in tokenize.generate_tokens(io.StringIO(text).readline):
        if token.type == tokenize.STRING and bad_escape(token.string):
            found.append(("L27", token.start[0]))
    return found


def bad_escape(source):
    prefix = source[:2].lower()
    known = r"\\[nt\\'\"]" + (r"|\\x[0-9a-f]{2}" if "b" in prefix else "")
    return "\\" in re.sub(known, "", source)


def own_names(trees):
    """What the package defines: methods, attributes, and all that is called off something."""
    methods, attributes, functions = {}, {}, {}
    for tree in trees.values():
        for node in ast.walk(tree):
            if isinstance(node, ast.ClassDef):
                defined = [item for item in node.body if isinstance(item, ast.FunctionDef)]
                methods.update({item.name: True for item in defined if not is_property(item)})
            if isinstance(node, ast.FunctionDef):
                functions[node.name] = True
            if isinstance(node, ast.Attribute) and isinstance(node.ctx, ast.Store):
                attributes[node.attr] = True
    return {"methods": methods, "attributes": attributes, "functions": functions}


def is_property(function):
    return any(isinstance(mark, ast.Attribute) or mark.id == "property" for mark in function.decorator_list)


def wrong_imports(package, tree, trees):
    """The imports that are not `from package.file import what this file defines`."""
    wrong = []
    for node in ast.walk(tree):
        if not isinstance(node, ast.ImportFrom) or node.module == "__future__":
            continue
        target = f"{(node.module or '').removeprefix(package + '.')}.py"
        if node.level or target not in trees or target == "__main__.py":
            wrong.append(node)
        elif not all(alias.name in bound_at_top(trees[target], imports=False) for alias in node.names):
            wrong.append(node)
    return wrong


def reached(package, name, trees):
    """The names of all files from which a file imports, directly or through others."""
    seen, waiting = set(), [name]
    while waiting:
        for node in ast.walk(trees[waiting.pop()]):
            if isinstance(node, ast.ImportFrom):
                target = f"{(node.module or '').removeprefix(package + '.')}.py"
                if target in trees and target not in seen:
                    seen.add(target)
                    waiting.append(target)
    return seen


def bound_at_top(tree, imports=True):
    """The names that are bound at module level, one entry for each binding."""
    names = []
    for node in tree.body:
        if isinstance(node, (ast.FunctionDef, ast.ClassDef)):
            names.append(node.name)
        elif isinstance(node, ast.Assign):
            names += [target.id for target in node.targets if isinstance(target, ast.Name)]
        elif isinstance(node, ast.ImportFrom) and imports:
            names += [alias.asname or alias.name for alias in node.names]
    return names


def faults_in_tree(tree, name, own):
    for node in ast.walk(tree):
        for child in ast.iter_child_nodes(node):
            child.parent = node
    yield from faults_at_top(tree, name)
    taken = classes_and_imports(tree)
    for node in ast.walk(tree):
        if isinstance(node, ast.stmt):
            yield from statement_faults(node)
        if isinstance(node, FUNCTIONS):
            yield from function_faults(node)
        if isinstance(node, ast.ClassDef):
            yield from class_faults(node)
        if isinstance(node, ast.Call):
            yield from call_faults(node, own)
        yield from name_faults(node, taken)
        yield from value_faults(node)


def faults_at_top(tree, name):
    rest = [node for node in tree.body]
    if rest and is_text(rest[0]):
        rest = rest[1:]
    imports_over = False
    for node in rest:
        is_import = isinstance(node, (ast.ImportFrom, ast.Import))
        if is_import and imports_over:
            yield "L2", node
        imports_over = imports_over or not is_import
        if isinstance(node, ast.Assign):
            if len(node.targets) > 1 or not isinstance(node.targets[0], ast.Name) or not is_plain(node.value):
                yield "L3", node
            inner = [part for part in ast.walk(node.value) if isinstance(part, (ast.List, ast.Dict))]
            if any(part is not node.value for part in inner):
                yield "L15", node
        elif not is_import and not isinstance(node, (ast.FunctionDef, ast.ClassDef)):
            if name != "__main__.py" or not isinstance(node, ast.If):
                yield "L3", node
    names = bound_at_top(tree)
    if len(names) != len(set(names)):
        yield "L15", tree.body[0]


def is_text(node):
    return isinstance(node, ast.Expr) and isinstance(node.value, ast.Constant) and isinstance(node.value.value, str)


def is_plain(value):
    kinds = (ast.Constant, ast.List, ast.Tuple, ast.Dict, ast.Name, ast.BinOp, ast.UnaryOp, ast.operator, ast.unaryop,
             ast.expr_context)
    return all(isinstance(part, kinds) for part in ast.walk(value))


def classes_and_imports(tree):
    names = [node.name for node in tree.body if isinstance(node, ast.ClassDef)]
    for node in ast.walk(tree):
        if isinstance(node, ast.ImportFrom):
            names += [alias.asname or alias.name for alias in node.names]
    return set(names)


def statement_faults(node):
    if not isinstance(node, STATEMENTS):
        yield ("L2" if isinstance(node, ast.Import) else "L6"), node
    if isinstance(node, ast.ClassDef) and not isinstance(node.parent, ast.Module):
        yield "L15", node
    if isinstance(node, ast.ImportFrom) and not isinstance(node.parent, ast.Module):
        yield "L2", node
    if isinstance(node, ast.AugAssign) and isinstance(node.target, ast.Subscript):
        if isinstance(node.target.slice, ast.Slice):
            yield "L6", node
    if isinstance(node, ast.Expr) and not isinstance(node.value, (ast.Call, ast.Yield, ast.YieldFrom)):
        if not is_text(node):
            yield "L6", node
    if isinstance(node, ast.Assert) and isinstance(node.test, ast.Tuple):
        yield "L6", node
    if isinstance(node, (ast.Assert, ast.Delete, ast.Match, ast.With)) and not inside_function(node):
        yield "L6", node
    if isinstance(node, ast.AnnAssign) and node.value is None:
        yield "L21", node
    if isinstance(node, ast.Raise) and node.exc is not None:
        if not isinstance(node.exc, ast.Call) or not isinstance(node.exc.func, ast.Name):
            yield "L19", node
    if isinstance(node, ast.Try):
        yield from handler_faults(node)
    if isinstance(node, (ast.Assign, ast.Return)) and is_on_the_spot(node.value):
        yield "L23", node


def handler_faults(node):
    for handler in node.handlers:
        caught = handler.type.elts if isinstance(handler.type, ast.Tuple) else [handler.type]
        for kind in caught:
            if not isinstance(kind, ast.Name):
                yield "L6", node
            elif hasattr(builtins, kind.id) and kind.id not in CAUGHT:
                yield "L19", node
        if caught == []:
            yield "L19", node


def inside_function(node):
    while not isinstance(node, ast.Module):
        node = node.parent
        if isinstance(node, ast.FunctionDef):
            return True
    return False


def is_on_the_spot(value):
    if not isinstance(value, ast.Call):
        return False
    name = value.func.attr if isinstance(value.func, ast.Attribute) else getattr(value.func, "id", None)
    return name in ON_THE_SPOT


def function_faults(node):
    told = node.args
    if told.posonlyargs or any(not is_plain(value) for value in told.defaults + told.kw_defaults if value is not None):
        yield "L4", node
    if isinstance(node, ast.Lambda):
        if told.vararg or told.kwarg or told.kwonlyargs:
            yield "L4", node
        return
    if node.end_lineno - node.lineno + 1 > 40:
        yield "L10", node
    in_class = isinstance(node.parent, ast.ClassDef)
    for mark in node.decorator_list:
        known = isinstance(mark, ast.Name) and mark.id in ("property", "staticmethod", "classmethod")
        setter = isinstance(mark, ast.Attribute) and mark.attr == "setter"
        if not in_class or not (known or setter):
            yield "L4", node
    if node.name.startswith("__") and (not in_class or node.name[2:-2] not in DUNDERS):
        yield "L5", node
    if node.name == "__exit__":
        for part in node.body:
            if not isinstance(part, EXIT_ROWS) or isinstance(part, ast.Assign) and not is_simple(part.value):
                yield "L6", part
    if node.name == "__len__":
        for part in ast.walk(node):
            if isinstance(part, ast.Return) and not is_length(part.value):
                yield "L28", node
    if told.kwonlyargs and node.name.startswith("__") and node.name != "__init__":
        yield "L4", node


def is_simple(value):
    """Whether a value is a name, an attribute, a literal, or a list or tuple of such."""
    kinds = (ast.Name, ast.Attribute, ast.Constant, ast.List, ast.Tuple, ast.expr_context)
    return all(isinstance(part, kinds) for part in ast.walk(value))


def is_length(value):
    return isinstance(value, ast.Constant) or isinstance(value, ast.Call) and getattr(value.func, "id", None) == "len"


def class_faults(node):
    if node.decorator_list or node.keywords or any(not isinstance(base, ast.Name) for base in node.bases):
        yield "L5", node
    names = [item.name for item in node.body if isinstance(item, ast.FunctionDef) and not is_property(item)]
    if len(names) != len(set(names)):
        yield "L18", node
    for item in node.body:
        if isinstance(item, ast.Assign):
            if len(item.targets) > 1 or not is_plain(item.value):
                yield "L5", item
        elif not isinstance(item, (ast.FunctionDef, ast.Pass)) and not is_text(item):
            yield "L5", item


def call_faults(node, own):
    taker = getattr(node.func, "id", None) or getattr(node.func, "attr", None)
    if taker not in TAKES_ON_THE_SPOT and any(is_on_the_spot(value) for value in node.args):
        yield "L23", node
    if isinstance(node.func, ast.Name):
        name = node.func.id
        given = {word.arg for word in node.keywords}
        if name in BUILTINS and given - KEYWORDS.get(name, set()) - {None}:
            yield "L22", node
        if name == "isinstance" and len(node.args) == 2:
            kinds = node.args[1].elts if isinstance(node.args[1], ast.Tuple) else [node.args[1]]
            if not all(isinstance(kind, ast.Name) for kind in kinds):
                yield "L22", node
    elif isinstance(node.func, ast.Attribute):
        name = node.func.attr
        if name not in METHODS and name not in own["functions"] and name not in own["attributes"]:
            yield ("L28" if name.startswith("__") and name.strip("_") in DUNDERS - {"init"} else "L25"), node
        if name in METHODS and node.keywords and name != "sort" and name not in own["methods"]:
            yield "L25", node
    elif isinstance(node.func, ast.Constant):
        yield "L7", node


def name_faults(node, taken):
    variables = variables_bound(node)
    attribute = [node.attr] if isinstance(node, ast.Attribute) else []
    keywords = [node.arg] if isinstance(node, ast.keyword) and node.arg else []
    for name in variables + attribute + keywords:
        where = node if hasattr(node, "lineno") else node.parent
        if not re.fullmatch(r"[A-Za-z][A-Za-z0-9_]*", name) and name not in FREE_DUNDERS:
            yield "L12", where
        if name in BARRED_NAMES or FRAMES.match(name):
            yield "L17", where
    is_method = isinstance(node, ast.FunctionDef) and isinstance(node.parent, ast.ClassDef)
    for name in variables:
        if name in BARRED_VARIABLES:
            yield "L17", node
        if hasattr(builtins, name) and (not is_method or name in BUILTINS):
            yield "L15", node
        if name in taken and not isinstance(node, (ast.ClassDef, ast.alias)):
            yield "L15", node
    if attribute and isinstance(node.ctx, ast.Store) and node.attr in BARRED_ATTRIBUTES:
        yield "L26", node
    if isinstance(node, ast.Name) and isinstance(node.ctx, ast.Load):
        if hasattr(builtins, node.id) and node.id not in BUILTINS | {"__name__", "print"}:
            yield ("L27" if node.id == "chr" else "L8"), node


def variables_bound(node):
    if isinstance(node, ast.Name) and isinstance(node.ctx, (ast.Store, ast.Del)):
        return [node.id]
    if isinstance(node, (ast.FunctionDef, ast.ClassDef)):
        return [node.name]
    if isinstance(node, ast.arg):
        return [node.arg]
    if isinstance(node, ast.alias):
        return [node.asname or node.name]
    if isinstance(node, (ast.ExceptHandler, ast.MatchAs, ast.MatchStar)) and node.name:
        return [node.name]
    return []


def value_faults(node):
    if isinstance(node, ast.Constant) and not isinstance(node.value, (int, str, bytes, type(None))):
        if not (node.value is ... and isinstance(node.parent, ast.Subscript)):
            yield "L7", node
    if isinstance(node, (ast.BinOp, ast.AugAssign)):
        if isinstance(node.op, (ast.Div, ast.MatMult)):
            yield "L7", node
        if isinstance(node.op, ast.Pow) and isinstance(getattr(node, "left", None), ast.Constant):
            if not isinstance(node.right, ast.Constant):
                yield "L27", node
    if isinstance(node, ast.GeneratorExp) and not takes_a_generator(node.parent):
        yield "L7", node
    if isinstance(node, ast.Compare) and any(isinstance(sign, (ast.Is, ast.IsNot)) for sign in node.ops):
        if not all(isinstance(side, ast.Constant) and repr(side.value) in ("None", "True", "False")
                   for side in node.comparators):
            yield "L20", node
    if isinstance(node, ast.Set):
        numbers = [item for item in node.elts if isinstance(item, ast.Constant) and isinstance(item.value, int)]
        if len(numbers) > 2 and not isinstance(node.parent, ast.Compare):
            yield "L13", node
    if isinstance(node, (ast.For, ast.comprehension)) and is_set(node.iter):
        yield "L24", node.iter
    if isinstance(node, ast.Constant) and isinstance(node.value, (str, bytes)):
        yield from text_faults(node)


def takes_a_generator(node):
    """Whether a generator expression may stand in this call, beside classes with `__eq__` and operators."""
    if not isinstance(node, ast.Call):
        return False
    name = getattr(node.func, "id", None) or getattr(node.func, "attr", None)
    return name in ("list", "tuple", "dict", "join")


def is_set(value):
    made = isinstance(value, ast.Call) and getattr(value.func, "id", None) in ("set", "frozenset")
    return made or isinstance(value, (ast.Set, ast.SetComp))


def text_faults(node):
    text = node.value if isinstance(node.value, str) else node.value.decode("latin-1")
    framed = text.startswith("__") and text.endswith("__") and text not in ("__main__",)
    if "%" in text or text.endswith(("._", ".__")) or framed or FRAMES.fullmatch(text):
        yield "L27", node
