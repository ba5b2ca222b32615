"""The package keeps to ../shared/LANGUAGE.md: the rules that can be read off a file, and samples that break them."""

import ast
import builtins
import io
import os
import re
import tokenize
import unittest

PACKAGE = os.path.join(os.path.dirname(os.path.dirname(os.path.abspath(__file__))), "wayhold")
BUILTINS = set(dir(builtins))
OWN_NAMES = set(
    "len range enumerate zip min max sum abs sorted reversed int str bool bytes list tuple dict set frozenset "
    "isinstance ord repr any all divmod Exception ValueError TypeError KeyError IndexError LookupError "
    "ZeroDivisionError ArithmeticError OverflowError RuntimeError NotImplementedError AttributeError "
    "StopIteration object".split()
)
DUNDERS = {"__init__", "__eq__", "__repr__", "__str__", "__len__"}
UNUSED_NAMES = set(
    "register mro elements open input version_info with_traceback add_note attrgetter breakpoint builtins compile "
    "copyright credits delattr dir eval exec exit gc getattr globals hasattr help id importlib license locals "
    "methodcaller os quit setattr super type vars sys format format_map".split()
)
UNUSED_WORDS = re.compile(
    r"\b(type|typing|typing_extensions|enum|Enum|IntEnum|StrEnum|Flag|IntFlag|Generic|Protocol|ABC|ABCMeta|namedtuple"
    r"|NamedTuple|TypedDict|TYPE_CHECKING|abstractmethod)\b|dataclass|overload|contextmanager"
)
METHODS = set(
    "append clear copy count endswith extend find get index insert isalnum isalpha isdigit islower isspace isupper "
    "items join keys ljust lower lstrip partition pop remove replace reverse rfind rjust rpartition rsplit rstrip "
    "setdefault split splitlines startswith strip update upper values zfill bit_length title capitalize swapcase "
    "casefold center expandtabs removeprefix removesuffix rindex isascii isdecimal isnumeric istitle isidentifier "
    "isprintable encode decode hex fromhex to_bytes from_bytes translate maketrans sort add discard".split()
)
NO_NODES = (
    (ast.With, "L6"), (ast.Match, "L6"), (ast.Global, "L6"), (ast.Nonlocal, "L6"), (ast.Yield, "L6"),
    (ast.YieldFrom, "L6"), (ast.AsyncFunctionDef, "L6"), (ast.AsyncFor, "L6"), (ast.AsyncWith, "L6"),
    (ast.Await, "L6"), (ast.TryStar, "L6"), (ast.NamedExpr, "L7"), (ast.GeneratorExp, "L7"), (ast.Div, "L7"),
    (ast.MatMult, "L7"), (ast.Import, "L16"),
)


def docstring(node):
    return isinstance(node, ast.Expr) and isinstance(node.value, ast.Constant) and isinstance(node.value.value, str)


def size_faults(text, tree):
    rows = text.split("\n")
    faults = ["L10"] if len(rows) > 401 or any(len(row) > 120 for row in rows) else []
    for node in ast.walk(tree):
        if isinstance(node, ast.FunctionDef) and node.end_lineno - node.lineno >= 40:
            faults.append("L10")
    return faults


def sign_faults(text):
    faults = []
    if any(not (" " <= sign <= "~" or sign == "\n") for sign in text):
        faults.append("L14")
    if UNUSED_WORDS.search(text):
        faults.append("L17")
    for token in tokenize.generate_tokens(io.StringIO(text).readline):
        if token.type == tokenize.STRING:
            if "%" in token.string or re.search(r"\\[^nt\\'\"\n]", token.string):
                faults.append("L27")
    return faults


def top_faults(tree):
    faults, bound = [], []
    for at, node in enumerate(tree.body):
        if isinstance(node, (ast.FunctionDef, ast.ClassDef)):
            bound.append(node.name)
        elif isinstance(node, ast.ImportFrom):
            bound.extend(alias.asname or alias.name for alias in node.names)
        elif isinstance(node, ast.Assign) and len(node.targets) == 1 and isinstance(node.targets[0], ast.Name):
            bound.append(node.targets[0].id)
        elif not (at == 0 and docstring(node)):
            faults.append("L3")
    return faults + (["L15"] if len(bound) > len(set(bound)) else [])


def import_faults(tree):
    faults = []
    for node in ast.walk(tree):
        if isinstance(node, ast.ImportFrom):
            own = node.level == 0 and re.fullmatch(r"wayhold\.[a-z0-9_]+", node.module)
            if not own or any(alias.name == "*" for alias in node.names) or node not in tree.body:
                faults.append("L2")
    return faults


def class_faults(node):
    faults = ["L5"] if node.decorator_list or node.keywords or len(node.bases) > 1 else []
    for row in node.body:
        if isinstance(row, ast.FunctionDef):
            if row.name.startswith("_") and row.name not in DUNDERS:
                faults.append("L5")
        elif not (docstring(row) or isinstance(row, ast.Pass)):
            faults.append("L5")
    return faults


def def_faults(node):
    given = node.args
    faults = ["L4"] if given.vararg or given.kwarg or given.posonlyargs else []
    if isinstance(node, ast.FunctionDef) and node.decorator_list:
        faults.append("L4")
    if any(arg.arg in BUILTINS for arg in given.args + given.kwonlyargs):
        faults.append("L15")
    return faults


def names_of(node):
    """The names that a node bears or asks, values and methods of objects too."""
    if isinstance(node, ast.Name):
        return [node.id]
    if isinstance(node, ast.Attribute):
        return [node.attr]
    if isinstance(node, (ast.FunctionDef, ast.ClassDef, ast.ExceptHandler)):
        return [node.name] if node.name else []
    if isinstance(node, (ast.arg, ast.keyword)):
        return [node.arg] if node.arg else []
    return []


def name_faults(node):
    faults = []
    for name in names_of(node):
        if not name.isascii() or (name.startswith("_") and name not in DUNDERS):
            faults.append("L12")
        if name in UNUSED_NAMES:
            faults.append("L17")
    if isinstance(node, ast.Name):
        if node.id in BUILTINS and node.id not in OWN_NAMES:
            faults.append("L8")
        if node.id in BUILTINS and not isinstance(node.ctx, ast.Load):
            faults.append("L15")
    return faults


def expression_faults(node, own_methods):
    faults = [rule for kind, rule in NO_NODES if isinstance(node, kind)]
    if isinstance(node, (ast.For, ast.While)) and node.orelse:
        faults.append("L6")
    if isinstance(node, ast.Constant) and isinstance(node.value, (float, complex)):
        faults.append("L7")
    if isinstance(node, ast.FormattedValue) and node.format_spec:
        faults.append("L7")
    if isinstance(node, ast.Compare) and any(isinstance(sign, (ast.Is, ast.IsNot)) for sign in node.ops):
        last = node.comparators[-1]
        if not (isinstance(last, ast.Constant) and last.value in (None, True, False)):
            faults.append("L20")
    if isinstance(node, ast.Call) and isinstance(node.func, ast.Attribute):
        if node.func.attr not in METHODS | own_methods | {"__init__"}:
            faults.append("L25")
    if isinstance(node, ast.ExceptHandler):
        if node.type is None or {"Exception", "TypeError"} & {one for n in ast.walk(node.type) for one in names_of(n)}:
            faults.append("L19")
    return faults


def rule_faults(text, own_methods=frozenset()):
    """The numbers of the rules that a file breaks."""
    tree = ast.parse(text)
    faults = size_faults(text, tree) + sign_faults(text) + top_faults(tree) + import_faults(tree)
    for node in ast.walk(tree):
        faults += name_faults(node) + expression_faults(node, own_methods)
        if isinstance(node, ast.ClassDef):
            faults += class_faults(node)
        if isinstance(node, (ast.FunctionDef, ast.Lambda)):
            faults += def_faults(node)
    return faults


def package_files():
    found = {}
    for name in sorted(os.listdir(PACKAGE)):
        if name != "__pycache__":
            with open(os.path.join(PACKAGE, name), encoding="utf-8", newline="") as file:
                found[name] = file.read()
    return found


def methods_of(files):
    return {
        row.name
        for text in files.values() for node in ast.parse(text).body if isinstance(node, ast.ClassDef)
        for row in node.body if isinstance(row, ast.FunctionDef)
    }


def drawn_from(text):
    return [
        (node.module.split(".")[1] + ".py", alias.name)
        for node in ast.parse(text).body if isinstance(node, ast.ImportFrom) for alias in node.names
    ]


def defined_in(text):
    names = []
    for node in ast.parse(text).body:
        if isinstance(node, (ast.FunctionDef, ast.ClassDef)):
            names.append(node.name)
        if isinstance(node, ast.Assign):
            names.append(node.targets[0].id)
    return names


class PackageTests(unittest.TestCase):
    def test_files_are_called_plainly(self):
        files = package_files()
        self.assertIn("__init__.py", files)
        for name in files:
            self.assertRegex(name, r"^([a-z][a-z0-9_]*|__init__|__main__)\.py$")

    def test_each_file_keeps_to_the_rules(self):
        files = package_files()
        for name, text in files.items():
            with self.subTest(name):
                self.assertEqual(rule_faults(text, methods_of(files)), [])

    def test_names_are_drawn_from_the_file_that_defines_them(self):
        files = package_files()
        for text in files.values():
            for file, name in drawn_from(text):
                self.assertIn(name, defined_in(files[file]))

    def test_no_two_files_draw_from_one_another(self):
        rest = {name: {file for file, drawn in drawn_from(text)} for name, text in package_files().items()}
        while rest:
            free = [name for name, files in rest.items() if not files & set(rest)]
            self.assertNotEqual(free, [], rest)
            for name in free:
                del rest[name]


class SampleTests(unittest.TestCase):
    """A reader that finds nothing would let all pass: each rule it knows is broken here once."""

    samples = (
        ("L2", "from os.path import join\n"), ("L2", "from .errors import WayError\n"),
        ("L2", "from wayhold.errors import *\n"), ("L3", "print_it = 1\nif print_it:\n    pass\n"),
        ("L4", "def f(*xs):\n    return xs\n"), ("L4", "def f(**xs):\n    return xs\n"),
        ("L5", "class A:\n    size = 3\n"), ("L5", "class A:\n    def __add__(self, other):\n        return other\n"),
        ("L6", "def f(x):\n    yield x\n"), ("L6", "def f(x):\n    for k in x:\n        pass\n    else:\n        pass\n"),
        ("L7", "def f(x):\n    return x / 2\n"), ("L7", "def f(x):\n    return x * 0.5\n"),
        ("L7", "def f(x):\n    return sum(k for k in x)\n"), ("L7", "def f(x):\n    return f'{x:>3}'\n"),
        ("L8", "def f(x):\n    return print(x)\n"), ("L10", "def f(x):\n" + "    x += 1\n" * 40),
        ("L10", "NAME = '" + "x" * 120 + "'\n"), ("L12", "def f(x):\n    _y = x\n    return _y\n"),
        ("L14", "NAME = 'caf\u00e9'\n"), ("L14", "def f(x):\n\treturn x\n"), ("L15", "A = 1\nA = 2\n"),
        ("L15", "def f(min):\n    return min\n"), ("L16", "import os\n"), ("L17", "# the type of it\n"),
        ("L17", "def f(x):\n    return getattr(x, 'y')\n"),
        ("L19", "def f(x):\n    try:\n        return x[0]\n    except Exception:\n        return 0\n"),
        ("L20", "def f(x, y):\n    return x is y\n"), ("L25", "def f(x):\n    return x.popitem()\n"),
        ("L27", "NAME = '5 %'\n"), ("L27", "NAME = '\\x41'\n"),
    )

    def test_each_sample_is_found(self):
        for rule, text in self.samples:
            with self.subTest(rule=rule, text=text):
                self.assertIn(rule, rule_faults(text))

    def test_plain_code_is_let(self):
        text = '"""Words."""\n\nfrom wayhold.errors import WayError\n\nMANY = 3\n\n\ndef f(x, *, y=MANY):\n' \
               "    if x is None:\n        raise WayError('no')\n    return [k // y for k in x]\n"
        self.assertEqual(rule_faults(text), [])


if __name__ == "__main__":
    unittest.main()
