"""The package keeps to LANGUAGE.md, L1 to L28.

Where a rule lets a form that the package has no need of (try, lambda, sets, annotations, key=,
defs within defs, defs that call themselves or one another round, most methods with two
underscores), the check is narrower than the rule.

Known not to be looked at, and left to the reader: which of Python's own kinds stand by isinstance
(L22), and changes of a walked list under another name (L23).
"""

import ast
import builtins
import io
import pathlib
import re
import tokenize
import unittest

PACKAGE = pathlib.Path(__file__).resolve().parent.parent / "cardpairs"

PLAIN_NAME = re.compile(r"[A-Za-z][A-Za-z0-9_]*\Z")
FILE_NAME = re.compile(r"([a-z][a-z0-9_]*|__init__|__main__)\.py\Z")
BAD_FILE_NAMES = re.compile(r"(test|tests|testing|test_.*|site|conftest|sitecustomize|usercustomize)\Z")

OWN_NAMES = set(
    "len range enumerate zip min max sum abs sorted reversed int str bool list tuple dict set frozenset "
    "isinstance ord repr any all divmod Exception ValueError TypeError KeyError IndexError LookupError "
    "ZeroDivisionError ArithmeticError OverflowError RuntimeError NotImplementedError AttributeError "
    "StopIteration".split()
)
PYTHON_NAMES = set(dir(builtins))
NOWHERE_NAMES = set(
    "register mro elements open input version_info with_traceback add_note format format_map".split()
)
FRAME_NAME = re.compile(r"(f|tb|co|gi|cr|ag)_")
NOT_AS_NAMES = set(
    "attrgetter breakpoint builtins compile copyright credits delattr dir eval exec exit gc getattr globals "
    "hasattr help id importlib license locals methodcaller os quit setattr super type vars sys __name__".split()
)
NOWHERE_WORDS = (
    "type typing typing_extensions enum Enum IntEnum StrEnum Flag IntFlag Generic Protocol ABC ABCMeta namedtuple "
    "NamedTuple TypedDict TYPE_CHECKING abstractmethod".split()
)
NOWHERE_PARTS = ("dataclass", "overload", "contextmanager")
METHODS = set(
    "append clear copy count endswith extend find get index insert isalnum isalpha isdigit islower isspace isupper "
    "items join keys ljust lower lstrip partition pop remove replace reverse rfind rjust rpartition rsplit rstrip "
    "setdefault split splitlines startswith strip update upper values zfill bit_length".split()
)
CHANGING = set("append clear extend insert pop remove reverse setdefault update".split())
OWN_METHODS_TOO = METHODS | {"add", "discard"}
OWN_VALUES_TOO = set("count index title find get join lower upper split strip copy add".split())
TAKEN_ATTRIBUTES = set().union(*(dir(kind) for kind in (str, int, list, dict, set, bytes, tuple, frozenset)))
TAKEN_VALUES = (TAKEN_ATTRIBUTES | {"args", "encode"}) - OWN_VALUES_TOO
WALKED = {"zip", "enumerate", "reversed", "range"}
WALKED_METHODS = {"items", "keys", "values"}
WALKERS = {"list", "tuple", "dict", "sorted", "sum", "any", "all", "enumerate", "zip"}
KEYWORDS = {
    "sorted": {"reverse"}, "min": {"default"}, "max": {"default"}, "sum": {"start"}, "enumerate": {"start"},
    "zip": {"strict"},
}
STATEMENTS = (
    ast.Assign, ast.AugAssign, ast.If, ast.While, ast.For, ast.Return, ast.Break, ast.Continue, ast.Pass, ast.Raise,
    ast.Expr, ast.FunctionDef, ast.ClassDef, ast.ImportFrom,
)
EXPRESSIONS = (
    ast.BoolOp, ast.BinOp, ast.UnaryOp, ast.IfExp, ast.Dict, ast.ListComp, ast.Compare, ast.Call, ast.JoinedStr,
    ast.FormattedValue, ast.Constant, ast.Attribute, ast.Subscript, ast.Name, ast.List, ast.Tuple, ast.Slice,
)
LARGEST_NUMBER = 10 ** 900


class Module:
    def __init__(self, name, text):
        self.name = name
        self.text = text
        self.tree = ast.parse(text)
        self.parents = {}
        for node in ast.walk(self.tree):
            for child in ast.iter_child_nodes(node):
                self.parents[child] = node
        body = self.tree.body
        self.imports = [node for node in body if isinstance(node, ast.ImportFrom)]
        self.imported = [alias.name for node in self.imports for alias in node.names]
        self.classes = [node.name for node in body if isinstance(node, ast.ClassDef)]
        self.defs = [node.name for node in body if isinstance(node, ast.FunctionDef)]
        self.given = [node for node in body if isinstance(node, ast.Assign)]
        self.named = [node.targets[0].id for node in self.given if isinstance(node.targets[0], ast.Name)]

    def top_names(self):
        return self.imported + self.classes + self.defs + self.named

    def of(self, *kinds):
        return [node for node in ast.walk(self.tree) if isinstance(node, kinds)]


def is_plain_value(node, above):
    if isinstance(node, ast.UnaryOp):
        return isinstance(node.op, ast.USub) and isinstance(node.operand, ast.Constant)
    if isinstance(node, (ast.List, ast.Tuple)):
        return all(is_plain_value(part, above) for part in node.elts)
    if isinstance(node, ast.Dict):
        return all(part is not None and is_plain_value(part, above) for part in node.keys + node.values)
    if isinstance(node, ast.Name):
        return node.id in above
    return isinstance(node, ast.Constant)


def is_docstring(node):
    return isinstance(node, ast.Expr) and isinstance(node.value, ast.Constant) and isinstance(node.value.value, str)


def called_name(node):
    if isinstance(node, ast.Call) and isinstance(node.func, ast.Name):
        return node.func.id
    return None


def check_text(module):
    rows = module.text.split("\n")
    if len(rows) > 401:
        yield "L10", 1, "a long file"
    for place, row in enumerate(rows, 1):
        if len(row) > 120:
            yield "L10", place, "a long line"
        if any(not " " <= sign <= "~" for sign in row):
            yield "L14", place, "a sign"
        for word in re.findall(r"\w+", row):
            if word in NOWHERE_WORDS or any(part in word for part in NOWHERE_PARTS):
                yield "L17", place, word
    for token in tokenize.generate_tokens(io.StringIO(module.text).readline):
        kind = tokenize.tok_name[token.type]
        if kind in ("STRING", "FSTRING_MIDDLE"):
            if "%" in token.string:
                yield "L27", token.start[0], "a % in a text"
            if re.search(r"\\[^nt\\'\"]", token.string.replace("\\\\", "")):
                yield "L27", token.start[0], "an escape"


def check_top(module):
    above = []
    for place, node in enumerate(module.tree.body):
        if isinstance(node, ast.Assign):
            if not isinstance(node.targets[0], ast.Name) or not is_plain_value(node.value, above):
                yield "L3", node.lineno, "no plain value"
            for part in list(ast.walk(node.value))[1:]:
                if isinstance(node.value, (ast.List, ast.Dict, ast.Tuple)) and isinstance(part, (ast.List, ast.Dict)):
                    yield "L15", node.lineno, "a list within a list at the top"
        elif isinstance(node, ast.FunctionDef):
            above.append(node.name)
        elif not (isinstance(node, (ast.ImportFrom, ast.ClassDef)) or place == 0 and is_docstring(node)):
            yield "L3", node.lineno, "a statement at the top"
    names = module.top_names()
    for name in sorted(set(names)):
        if names.count(name) > 1:
            yield "L15", 1, "bound twice: " + name


def check_imports(module, modules):
    for node in module.of(ast.Import):
        yield "L16", node.lineno, "import"
    for node in module.of(ast.ImportFrom):
        if node not in module.imports:
            yield "L2", node.lineno, "an import that isn't at the top"
        elif node.level or node.module not in modules or node.module == "cardpairs.__main__":
            yield "L2", node.lineno, "not the package's own"
        else:
            source = modules[node.module]
            for alias in node.names:
                if alias.asname or alias.name not in source.classes + source.defs + source.named:
                    yield "L16", node.lineno, alias.name


def check_round(modules):
    """No two files draw from one another; the package's own __init__ is drawn from by all."""
    drawn = {name: {node.module for node in module.imports} for name, module in modules.items()}
    for name in drawn:
        if drawn[name]:
            drawn[name].add("cardpairs")
    for name in round_again(drawn):
        yield "L16", 1, "round: " + name


def round_again(steps):
    """Those from which steps lead back to themselves."""
    for name in steps:
        seen = set()
        ahead = list(steps[name])
        while ahead:
            step = ahead.pop()
            if step not in seen:
                seen.add(step)
                ahead.extend(steps.get(step, ()))
        if name in seen:
            yield name


def check_calls_round(modules):
    """Defs and methods are told apart by their names alone."""
    called = {}
    for module in modules.values():
        for node in module.of(ast.FunctionDef):
            inner = called.setdefault(node.name, set())
            for part in ast.walk(node):
                if isinstance(part, ast.Name) and isinstance(part.ctx, ast.Load):
                    inner.add(part.id)
                if isinstance(part, ast.Attribute) and isinstance(part.ctx, ast.Load):
                    inner.add(part.attr)
    for name in round_again(called):
        yield "L11", 1, "calls itself: " + name


def check_defs(module):
    for node in module.of(ast.FunctionDef):
        if node.end_lineno - node.lineno + 1 > 40:
            yield "L10", node.lineno, "a long function"
        told = node.args
        if told.vararg or told.kwarg or told.kwonlyargs or told.posonlyargs or node.decorator_list:
            yield "L4", node.lineno, node.name
        if not all(isinstance(value, ast.Constant) for value in told.defaults):
            yield "L4", node.lineno, "a default"
        if isinstance(module.parents[node], ast.FunctionDef):
            yield "L4", node.lineno, "a def within a def"
        if node.returns or any(part.annotation for part in told.args):
            yield "L21", node.lineno, "an annotation"
        for name in [part.arg for part in told.args] + local_names(node):
            if name in PYTHON_NAMES or name in module.classes + module.imported:
                yield "L15", node.lineno, name
            if name in module.defs + module.named:
                yield "L15", node.lineno, name
    for node in module.of(ast.AnnAssign):
        yield "L21", node.lineno, "an annotation"


def local_names(node):
    return [part.id for part in ast.walk(node) if isinstance(part, ast.Name) and isinstance(part.ctx, ast.Store)]


def check_classes(module):
    for node in module.of(ast.ClassDef):
        if node not in module.tree.body:
            yield "L15", node.lineno, "a class that isn't at the top"
        bases = [base.id for base in node.bases if isinstance(base, ast.Name)]
        if node.decorator_list or node.keywords or len(node.bases) > 1 or len(bases) != len(node.bases):
            yield "L5", node.lineno, node.name
        for base in bases:
            if base not in module.classes + module.imported and not base.endswith(("Error", "Exception")):
                yield "L5", node.lineno, base
            if base in ("StopIteration", "AttributeError"):
                yield "L18", node.lineno, base
        methods = [part.name for part in node.body if isinstance(part, ast.FunctionDef)]
        if len(set(methods)) != len(methods):
            yield "L18", node.lineno, "a method twice"
        for place, part in enumerate(node.body):
            if not (isinstance(part, (ast.FunctionDef, ast.Pass)) or place == 0 and is_docstring(part)):
                yield "L5", part.lineno, "a value in the class body"
        for name in methods:
            if name.startswith("__") and name != "__init__":
                yield "L28", node.lineno, name
            elif name in TAKEN_ATTRIBUTES - OWN_METHODS_TOO - {"__init__"}:
                yield "L26", node.lineno, name
        for part in node.body:
            if isinstance(part, ast.FunctionDef) and part.name == "__init__":
                if any(isinstance(inner, ast.Return) and inner.value for inner in ast.walk(part)):
                    yield "L28", part.lineno, "__init__ gives back"
    for node in module.of(ast.Name):
        if node.id in module.classes + [name for name in module.imported if name[0].isupper() and not name.isupper()]:
            parent = module.parents[node]
            is_asked = called_name(parent) == "isinstance" and node in parent.args[1:]
            if not (isinstance(parent, ast.ClassDef) or is_asked or getattr(parent, "func", None) is node):
                yield "L18", node.lineno, node.id


def check_statements(module):
    for node in module.of(ast.stmt):
        if not isinstance(node, STATEMENTS + (ast.Import, ast.AnnAssign)):
            rule = "L19" if isinstance(node, ast.Try) else "L6"
            yield rule, node.lineno, node.__class__.__name__
        if isinstance(node, (ast.For, ast.While)) and node.orelse:
            yield "L6", node.lineno, "else behind a loop"
        if isinstance(node, ast.Assign) and len(node.targets) > 1:
            yield "L6", node.lineno, "two targets"
        if isinstance(node, ast.Expr) and not isinstance(node.value, ast.Call) and not is_docstring(node):
            yield "L6", node.lineno, "a value by itself"
        if isinstance(node, ast.Raise) and (node.cause or not isinstance(node.exc, ast.Call)):
            yield "L19", node.lineno, "raise"


def is_truth(node):
    return isinstance(node, ast.Constant) and isinstance(node.value, bool)


def is_none_or_truth(node):
    return is_truth(node) or isinstance(node, ast.Constant) and node.value is None


def check_expressions(module):
    for node in module.of(ast.expr):
        if not isinstance(node, EXPRESSIONS):
            rule = "L13" if isinstance(node, (ast.Lambda, ast.Set)) else "L7"
            yield rule, node.lineno, node.__class__.__name__
        if isinstance(node, ast.ListComp) and (len(node.generators) > 1 or len(node.generators[0].ifs) > 1):
            yield "L7", node.lineno, "a comprehension"
        if isinstance(node, ast.Dict) and None in node.keys:
            yield "L7", node.lineno, "a star"
        if isinstance(node, ast.Constant):
            if node.value is not None and not isinstance(node.value, (int, str)):
                yield "L7", node.lineno, repr(node.value)
            elif isinstance(node.value, int) and node.value >= LARGEST_NUMBER:
                yield "L27", node.lineno, "a large number"
        if isinstance(node, ast.FormattedValue):
            if not isinstance(node.value, ast.Name) or node.conversion not in (-1, ord("r")) or node.format_spec:
                yield "L7", node.lineno, "an f-string"
    for node in module.of(ast.BinOp, ast.AugAssign):
        if isinstance(node.op, (ast.Div, ast.MatMult)):
            yield "L7", node.lineno, "/"
        if isinstance(node.op, ast.Pow):
            power = getattr(node, "right", None)
            if not (isinstance(power, ast.Constant) and isinstance(power.value, int) and power.value <= 64):
                yield "L27", node.lineno, "**"
    for node in module.of(ast.Compare):
        sides = [node.left] + node.comparators
        for place, sign in enumerate(node.ops):
            if isinstance(sign, (ast.Is, ast.IsNot)):
                if not any(is_none_or_truth(side) for side in sides[place:place + 2]):
                    yield "L20", node.lineno, "is"


def all_identifiers(module):
    for node in ast.walk(module.tree):
        for field in ("id", "name", "attr", "arg", "asname"):
            name = getattr(node, field, None)
            if isinstance(name, str):
                yield getattr(node, "lineno", 1), name, node


def check_names(module):
    for place, name, node in all_identifiers(module):
        if not PLAIN_NAME.match(name) and name not in ("__init__", "__all__", "__version__", "__name__"):
            yield "L12", place, name
        if name in NOWHERE_NAMES or FRAME_NAME.match(name):
            yield "L17", place, name
    for node in module.of(ast.Name):
        if node.id in NOT_AS_NAMES:
            yield "L17", node.lineno, node.id
        elif node.id in PYTHON_NAMES and node.id not in OWN_NAMES:
            yield "L9" if node.id == "print" else "L8", node.lineno, node.id
        elif node.id in ("set", "frozenset"):
            yield "L24", node.lineno, node.id
        elif node.id in OWN_NAMES:
            parent = module.parents[node]
            is_error = isinstance(getattr(builtins, node.id), type) and issubclass(getattr(builtins, node.id), Exception)
            while isinstance(parent, ast.Tuple):
                parent = module.parents[parent]
            if getattr(parent, "func", None) is not node and called_name(parent) != "isinstance":
                if not isinstance(parent, ast.keyword) and not (is_error and isinstance(parent, ast.ClassDef)):
                    yield "L22", node.lineno, node.id


def check_calls(module, methods, values):
    for node in module.of(ast.Call):
        name = called_name(node)
        is_pythons = name in OWN_NAMES or isinstance(node.func, ast.Attribute) and node.func.attr in METHODS
        for keyword in node.keywords:
            if keyword.arg is None:
                yield "L7", node.lineno, "a star"
            elif is_pythons and keyword.arg not in KEYWORDS.get(name, ()):
                yield "L22", node.lineno, keyword.arg
            elif is_pythons and keyword.arg in ("reverse", "strict") and not is_truth(keyword.value):
                yield "L22", node.lineno, keyword.arg
        is_walked = name in WALKED
        if isinstance(node.func, ast.Attribute):
            if node.func.attr not in METHODS | methods:
                yield "L25", node.lineno, node.func.attr
            is_walked = node.func.attr in WALKED_METHODS
        if is_walked and not walked_on_the_spot(module, node):
            yield "L23", node.lineno, "kept"
    for node in module.of(ast.Attribute):
        parent = module.parents[node]
        if getattr(parent, "func", None) is not node and not isinstance(parent, ast.keyword):
            if node.attr not in values:
                yield "L25", node.lineno, node.attr


def walked_on_the_spot(module, node):
    parent = module.parents[node]
    if isinstance(parent, (ast.For, ast.comprehension)):
        return parent.iter is node
    name = called_name(parent)
    if name in WALKERS:
        return node is parent.args[0] or name in ("zip",) and node in parent.args
    if name in ("min", "max"):
        return parent.args == [node]
    if isinstance(parent, ast.Call) and isinstance(parent.func, ast.Attribute) and parent.func.attr == "join":
        return isinstance(parent.func.value, ast.Constant)
    return False


def changed(nodes):
    """The written forms of all that these statements change."""
    for top in nodes:
        for node in ast.walk(top):
            if isinstance(node, ast.Subscript) and isinstance(node.ctx, ast.Store):
                yield node.lineno, ast.unparse(node.value)
            if isinstance(node, ast.Call) and isinstance(node.func, ast.Attribute) and node.func.attr in CHANGING:
                yield node.lineno, ast.unparse(node.func.value)
            if isinstance(node, ast.AugAssign):
                yield node.lineno, ast.unparse(node.target)


def check_loops(module):
    for loop in module.of(ast.For):
        walked = [loop.iter]
        if called_name(loop.iter) in ("enumerate", "zip", "reversed"):
            walked = loop.iter.args
        elif isinstance(loop.iter, ast.Call) and isinstance(loop.iter.func, ast.Attribute):
            walked = [loop.iter.func.value]
        written = [ast.unparse(node) for node in walked]
        for place, name in changed(loop.body):
            if name in written:
                yield "L23", place, name


def check_kept_at_the_top(module, modules):
    kept = []
    for source in modules.values():
        for node in source.given:
            if isinstance(node.value, (ast.List, ast.Dict)):
                name = node.targets[0].id
                if source is module or name in module.imported:
                    kept.append(name)
    for node in module.of(ast.Name):
        if node.id in kept and isinstance(node.ctx, ast.Load):
            parent = module.parents[node]
            is_read = isinstance(parent, (ast.Compare, ast.For, ast.comprehension))
            is_read = is_read or isinstance(parent, ast.Subscript) and isinstance(parent.ctx, ast.Load)
            is_read = is_read or called_name(parent) in ("len", "list", "dict", "tuple", "sorted", "enumerate")
            is_read = is_read or isinstance(parent, ast.Attribute) and parent.attr in WALKED_METHODS | {"get"}
            if not is_read:
                yield "L15", node.lineno, node.id
    for node in module.of(ast.Attribute):
        if isinstance(node.ctx, ast.Store):
            root = node.value
            while isinstance(root, (ast.Attribute, ast.Subscript)):
                root = root.value
            if not isinstance(root, ast.Name) or root.id in module.top_names():
                yield "L18", node.lineno, node.attr


def methods_and_values(modules):
    methods = set()
    values = set()
    for module in modules.values():
        for node in module.of(ast.ClassDef):
            methods |= {part.name for part in node.body if isinstance(part, ast.FunctionDef)}
        values |= {node.attr for node in module.of(ast.Attribute) if isinstance(node.ctx, ast.Store)}
    return methods, values


def check_package(texts):
    """Every breach in a package: its files' texts by module name."""
    modules = {name: Module(name, text) for name, text in texts.items()}
    methods, values = methods_and_values(modules)
    found = [("L18", 1, name) for name in sorted(methods & values)]
    found += [("L26", 1, name) for name in sorted(values & TAKEN_VALUES)]
    found += check_round(modules)
    found += check_calls_round(modules)
    for name, module in modules.items():
        for check in (check_text, check_top, check_defs, check_classes, check_statements, check_expressions,
                      check_names, check_loops):
            found += [breach + (name,) for breach in check(module)]
        found += [breach + (name,) for breach in check_imports(module, modules)]
        found += [breach + (name,) for breach in check_calls(module, methods, values)]
        found += [breach + (name,) for breach in check_kept_at_the_top(module, modules)]
    ends = {name.rpartition(".")[2] for name in modules}
    found += [("L16", 1, name) for name in modules["cardpairs"].top_names() if name in ends]
    return found


def check_files(paths):
    """Breaches in how the files are called: paths from the package's folder."""
    for path in paths:
        name = path.rpartition("/")[2]
        stem = name.partition(".")[0]
        if not FILE_NAME.match(name):
            yield "L1", path
        elif BAD_FILE_NAMES.match(stem) or stem in PYTHON_NAMES or stem in NOWHERE_WORDS:
            yield "L14", path
    folders = {path.rpartition("/")[0] for path in paths}
    for folder in sorted(folders):
        if (folder + "/__init__.py").lstrip("/") not in paths:
            yield "L14", folder


def package_paths():
    found = [path.relative_to(PACKAGE) for path in PACKAGE.rglob("*") if not path.is_dir()]
    # Python itself leaves this folder behind; it is no part of a checkout.
    return sorted(path.as_posix() for path in found if "__pycache__" not in path.parts)


def package_texts():
    texts = {}
    for path in package_paths():
        name = ("cardpairs." + path[:-len(".py")].replace("/", ".")).replace(".__init__", "")
        texts[name] = (PACKAGE / path).read_bytes().decode("utf-8")
    return texts


class ThePackage(unittest.TestCase):
    def test_files(self):
        self.assertIn("remembered.py", package_paths())
        self.assertEqual(list(check_files(package_paths())), [])

    def test_every_file_keeps_to_the_rules(self):
        self.assertEqual(check_package(package_texts()), [])


BREACHES = [
    ("L2", "def f():\n    from cardpairs.other import given\n    return given\n"),
    ("L2", "from math import gcd\n"),
    ("L2", "from .other import given\n"),
    ("L3", "print(1)\n"),
    ("L3", "A = len('ab')\n"),
    ("L4", "def f(*xs):\n    return xs\n"),
    ("L4", "def f(**xs):\n    return xs\n"),
    ("L4", "def f(*, x):\n    return x\n"),
    ("L4", "def d(f):\n    return f\n\n\n@d\ndef f():\n    return 1\n"),
    ("L5", "class A:\n    x = 1\n"),
    ("L5", "class A:\n    x = 1\n\n\nclass B(A, A):\n    pass\n"),
    ("L6", "def f(x):\n    assert x\n"),
    ("L6", "def f(x):\n    del x[0]\n"),
    ("L6", "def f(x):\n    with x:\n        pass\n"),
    ("L6", "def f(x):\n    a = b = x\n    return a + b\n"),
    ("L6", "def f(x):\n    for y in x:\n        pass\n    else:\n        return 1\n"),
    ("L7", "def f(x):\n    return x / 2\n"),
    ("L7", "def f(x):\n    x /= 2\n    return x\n"),
    ("L7", "def f():\n    return 1.5\n"),
    ("L7", "def f():\n    return b'a'\n"),
    ("L7", "def f(x):\n    return sum(y for y in x)\n"),
    ("L7", "def f(x):\n    return {y: 1 for y in x}\n"),
    ("L7", "def f(x):\n    return [y for z in x for y in z]\n"),
    ("L7", "def f(x):\n    if (y := x):\n        return y\n"),
    ("L7", "def f(x):\n    return [*x]\n"),
    ("L7", "def f(x):\n    return f'{x + 1}'\n"),
    ("L8", "def f(x):\n    return pow(x, 2)\n"),
    ("L9", "def f(x):\n    print(x)\n"),
    ("L10", "def f(x):\n" + "    x += 1\n" * 40),
    ("L10", "# a\n" * 401),
    ("L10", "# " + "a" * 119 + "\n"),
    ("L11", "def f(x):\n    return f(x - 1) if x else 0\n"),
    ("L11", "def f(x):\n    return g(x - 1) if x else 0\n\n\ndef g(x):\n    return f(x)\n"),
    ("L11", "class A:\n    def f(self):\n        return g(self)\n\n\ndef g(a):\n    return a.f()\n"),
    ("L12", "def _f(x):\n    return x\n"),
    ("L12", "def f(x):\n    for _ in x:\n        pass\n"),
    ("L13", "def f(x):\n    return x == {1, 2, 3}\n"),
    ("L14", "# caf\u00e9\n"),
    ("L14", "def f(x):\n\treturn x\n"),
    ("L15", "A = 1\nA = 2\n"),
    ("L15", "A = [[1], [2]]\n"),
    ("L15", "A = [1]\n\n\ndef f(x):\n    A.append(x)\n"),
    ("L15", "A = [1]\n\n\ndef f(x):\n    A[0] = x\n"),
    ("L15", "A = [1]\n\n\ndef f():\n    return A\n"),
    ("L15", "def f(hash):\n    return hash\n"),
    ("L15", "def f(x):\n    max = x\n    return max\n"),
    ("L16", "import cardpairs.other\n"),
    ("L16", "from cardpairs.other import absent\n"),
    ("L16", "from cardpairs.other import given as taken\n"),
    ("L17", "def f(x):\n    return getattr(x, 'y')\n"),
    ("L17", "def f(x):\n    return open(x)\n"),
    ("L17", "def f(x):\n    return x.f_back\n"),
    ("L17", "def f(x):\n    tb_lineno = x\n    return tb_lineno\n"),
    ("L17", "# the type of it\n"),
    ("L18", "class A:\n    def f(self):\n        return A\n"),
    ("L18", "class A:\n    def f(self):\n        self.f = 1\n"),
    ("L18", "class A:\n    def f(self):\n        A.x = 1\n"),
    ("L18", "class A:\n    def f(self):\n        return 1\n\n    def f(self):\n        return 2\n"),
    ("L19", "def f(x):\n    try:\n        return x[0]\n    except Exception:\n        return 1\n"),
    ("L19", "def f():\n    raise ValueError\n"),
    ("L20", "def f(x, y):\n    return x is y\n"),
    ("L20", "def f(x):\n    return x is 1\n"),
    ("L21", "def f(x: int):\n    return x\n"),
    ("L21", "def f(x):\n    y: int = x\n    return y\n"),
    ("L22", "def f(x):\n    g = len\n    return g(x)\n"),
    ("L22", "def f(x):\n    return int(x, base=2)\n"),
    ("L22", "def f(x, y):\n    return sorted(x, key=y)\n"),
    ("L22", "def f(x, y):\n    return sorted(x, reverse=y)\n"),
    ("L22", "def f(x, y):\n    return list(zip(x, y, strict=1))\n"),
    ("L23", "def f(x):\n    y = range(x)\n    return y\n"),
    ("L23", "def f(x):\n    return reversed(range(x))\n"),
    ("L23", "def f(x):\n    for y in x:\n        x.append(y)\n"),
    ("L23", "def f(x):\n    for y, z in enumerate(x):\n        x[y] = z + 1\n"),
    ("L24", "def f(x):\n    y = set(x)\n    return y\n"),
    ("L25", "def f(x):\n    x.sort()\n"),
    ("L25", "def f(x):\n    g = x.append\n    return g\n"),
    ("L26", "class A:\n    def title(self):\n        return 1\n"),
    ("L26", "class A:\n    def f(self):\n        self.items = 1\n"),
    ("L27", "def f(n):\n    return 2 ** n\n"),
    ("L27", "def f(n):\n    return 'a % b'\n"),
    ("L27", "def f(n):\n    return '\\x41'\n"),
    ("L27", "A = " + "1" * 901 + "\n"),
    ("L28", "class A:\n    def __init__(self):\n        return None\n"),
    ("L28", "class A:\n    def __eq__(self, other):\n        return True\n"),
]

KEPT = (
    '"""A file."""\n\nfrom cardpairs.other import given\n\nNUMBERS = (1, -2)\nWORDS = {"a": 1}\n\n\n'
    "class Refused(ValueError):\n    pass\n\n\nclass Row:\n    def __init__(self, many):\n        self.many = many\n\n"
    "    def grown(self, more=1):\n        self.many += more\n        return f\"{more} {more!r}\"\n\n\n"
    "def f(xs):\n    row = Row(len(xs))\n    found = []\n    for place, x in enumerate(xs):\n"
    "        if x is None or x in WORDS:\n            raise Refused(\"no\\n\")\n"
    "        found.append(WORDS[x] + NUMBERS[0] ** 2 + place)\n    row.grown(3)\n"
    "    return sorted([y for y in found if y > 1], reverse=True) + list(range(row.many)) + [given(2)]\n"
)


class TheChecks(unittest.TestCase):
    def breaches(self, text):
        texts = {"cardpairs": "", "cardpairs.other": "def given(x):\n    return x\n", "cardpairs.mine": text}
        return check_package(texts)

    def test_code_within_the_rules_passes(self):
        self.assertEqual(self.breaches(KEPT), [])

    def test_each_breach_is_found(self):
        for rule, text in BREACHES:
            with self.subTest(rule=rule, text=text):
                self.assertIn(rule, [breach[0] for breach in self.breaches(text)])

    def test_files_that_draw_from_one_another(self):
        one = "from cardpairs.two import g\n\n\ndef f():\n    return g()\n"
        two = "from cardpairs.one import f\n\n\ndef g():\n    return f()\n"
        found = check_package({"cardpairs": "", "cardpairs.one": one, "cardpairs.two": two})
        self.assertIn("L16", [breach[0] for breach in found])

    def test_an_init_that_draws_from_a_file_that_draws(self):
        texts = {
            "cardpairs": "from cardpairs.one import f\n",
            "cardpairs.one": "from cardpairs.two import g\n\n\ndef f():\n    return g()\n",
            "cardpairs.two": "def g():\n    return 1\n",
        }
        self.assertIn("L16", [breach[0] for breach in check_package(texts)])

    def test_file_names(self):
        for rule, path in [
            ("L1", "notes.txt"), ("L1", "a-b.py"), ("L1", "Big.py"), ("L14", "test_a.py"), ("L14", "range.py"),
            ("L14", "enum.py"), ("L14", "inner/a.py"),
        ]:
            with self.subTest(path=path):
                self.assertIn(rule, [breach[0] for breach in check_files(["__init__.py", path])])
        self.assertEqual(list(check_files(["__init__.py", "a_1.py"])), [])


if __name__ == "__main__":
    unittest.main()
