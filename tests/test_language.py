"""The package keeps to ../shared/LANGUAGE.md: the rules that can be read off a file, and samples that break them."""

import ast
import builtins
import io
import os
import re
import tokenize
import unittest

PACKAGE = os.path.join(os.path.dirname(os.path.dirname(os.path.abspath(__file__))), "wayhold")
BUILTINS = set(dir(builtins))
OWN_NAMES = set(
    "len range enumerate zip min max sum abs sorted reversed int str bool bytes list tuple dict set frozenset "
    "isinstance ord repr any all divmod Exception ValueError TypeError KeyError IndexError LookupError "
    "ZeroDivisionError ArithmeticError OverflowError RuntimeError NotImplementedError AttributeError "
    "StopIteration object".split()
)
DUNDERS = {"__init__", "__eq__", "__repr__", "__str__", "__len__"}
UNUSED_NAMES = set(
    "register mro elements open input version_info with_traceback add_note attrgetter breakpoint builtins compile "
    "copyright credits delattr dir eval exec exit gc getattr globals hasattr help id importlib license locals "
    "methodcaller os quit setattr super type vars sys format format_map".split()
)
UNUSED_WORDS = re.compile(
    r"\b(type|typing|typing_extensions|enum|Enum|IntEnum|StrEnum|Flag|IntFlag|Generic|Protocol|ABC|ABCMeta|namedtuple"
    r"|NamedTuple|TypedDict|TYPE_CHECKING|abstractmethod)\b|dataclass|overload|contextmanager"
)
METHODS = set(
    "append clear copy count endswith extend find get index insert isalnum isalpha isdigit islower isspace isupper "
    "items join keys ljust lower lstrip partition pop remove replace reverse rfind rjust rpartition rsplit rstrip "
    "setdefault split splitlines startswith strip update upper values zfill bit_length title capitalize swapcase "
    "casefold center expandtabs removeprefix removesuffix rindex isascii isdecimal isnumeric istitle isidentifier "
    "isprintable encode decode hex fromhex to_bytes from_bytes translate maketrans sort add discard".split()
)
CHANGES = set("append clear extend insert pop remove reverse setdefault update sort add discard".split())
NO_NODES = (
    (ast.With, "L6"), (ast.Match, "L6"), (ast.Global, "L6"), (ast.Nonlocal, "L6"), (ast.Yield, "L6"),
    (ast.YieldFrom, "L6"), (ast.AsyncFunctionDef, "L6"), (ast.AsyncFor, "L6"), (ast.AsyncWith, "L6"),
    (ast.Await, "L6"), (ast.TryStar, "L6"), (ast.NamedExpr, "L7"), (ast.GeneratorExp, "L7"), (ast.Div, "L7"),
    (ast.MatMult, "L7"), (ast.Import, "L16"),
)


def docstring(node):
    return isinstance(node, ast.Expr) and isinstance(node.value, ast.Constant) and isinstance(node.value.value, str)


def size_faults(text, tree):
    rows = text.split("\n")
    faults = ["L10"] if len(rows) > 401 or any(len(row) > 120 for row in rows) else []
    for node in ast.walk(tree):
        if isinstance(node, ast.FunctionDef) and node.end_lineno - node.lineno >= 40:
            faults.append("L10")
    return faults


def sign_faults(text):
    faults = []
    if any(not (" " <= sign <= "~" or sign == "\n") for sign in text):
        faults.append("L14")
    if UNUSED_WORDS.search(text):
        faults.append("L17")
    for token in tokenize.generate_tokens(io.StringIO(text).readline):
        if token.type == tokenize.STRING:
            if "%" in token.string or re.search(r"\\[^nt\\'\"\n]", token.string):
                faults.append("L27")
    return faults


def top_faults(tree):
    faults, bound = [], []
    for at, node in enumerate(tree.body):
        if isinstance(node, (ast.FunctionDef, ast.ClassDef)):
            bound.append(node.name)
        elif isinstance(node, ast.ImportFrom):
            bound.extend(alias.asname or alias.name for alias in node.names)
        elif isinstance(node, ast.Assign) and len(node.targets) == 1 and isinstance(node.targets[0], ast.Name):
            bound.append(node.targets[0].id)
        elif not (at == 0 and docstring(node)):
            faults.append("L3")
    return faults + (["L15"] if len(bound) > len(set(bound)) else [])


def import_faults(tree):
    faults = []
    for node in ast.walk(tree):
        if isinstance(node, ast.ImportFrom):
            own = node.level == 0 and re.fullmatch(r"wayhold\.[a-z0-9_]+", node.module)
            if not own or any(alias.name == "*" for alias in node.names) or node not in tree.body:
                faults.append("L2")
    return faults


def class_faults(node):
    faults = ["L5"] if node.decorator_list or node.keywords or len(node.bases) > 1 else []
    for row in node.body:
        if isinstance(row, ast.FunctionDef):
            if row.name.startswith("_") and row.name not in DUNDERS:
                faults.append("L5")
        elif not (docstring(row) or isinstance(row, ast.Pass)):
            faults.append("L5")
    return faults


def def_faults(node):
    given = node.args
    faults = ["L4"] if given.vararg or given.kwarg or given.posonlyargs else []
    if isinstance(node, ast.FunctionDef) and node.decorator_list:
        faults.append("L4")
    if any(arg.arg in BUILTINS for arg in given.args + given.kwonlyargs):
        faults.append("L15")
    return faults


def names_of(node):
    """The names that a node bears or asks, values and methods of objects too."""
    if isinstance(node, ast.Name):
        return [node.id]
    if isinstance(node, ast.Attribute):
        return [node.attr]
    if isinstance(node, (ast.FunctionDef, ast.ClassDef, ast.ExceptHandler)):
        return [node.name] if node.name else []
    if isinstance(node, (ast.arg, ast.keyword)):
        return [node.arg] if node.arg else []
    return []


def name_faults(node):
    faults = []
    for name in names_of(node):
        if not name.isascii() or (name.startswith("_") and name not in DUNDERS):
            faults.append("L12")
        if name in UNUSED_NAMES:
            faults.append("L17")
    if isinstance(node, ast.Name):
        if node.id in BUILTINS and node.id not in OWN_NAMES:
            faults.append("L8")
        if node.id in BUILTINS and not isinstance(node.ctx, ast.Load):
            faults.append("L15")
    return faults


def expression_faults(node, own_methods):
    faults = [rule for kind, rule in NO_NODES if isinstance(node, kind)]
    if isinstance(node, (ast.For, ast.While)) and node.orelse:
        faults.append("L6")
    if isinstance(node, ast.Constant) and isinstance(node.value, (float, complex)):
        faults.append("L7")
    if isinstance(node, ast.FormattedValue) and node.format_spec:
        faults.append("L7")
    if isinstance(node, ast.Compare) and any(isinstance(sign, (ast.Is, ast.IsNot)) for sign in node.ops):
        last = node.comparators[-1]
        if not (isinstance(last, ast.Constant) and last.value in (None, True, False)):
            faults.append("L20")
    if isinstance(node, ast.Call) and isinstance(node.func, ast.Attribute):
        if node.func.attr not in METHODS | own_methods | {"__init__"}:
            faults.append("L25")
    if isinstance(node, ast.ExceptHandler):
        if node.type is None or {"Exception", "TypeError"} & {one for n in ast.walk(node.type) for one in names_of(n)}:
            faults.append("L19")
    return faults


def shadow_faults(tree):
    """Parameters, locals and defs within defs that are called like a class or an import of the file."""
    tops = {node.name for node in tree.body if isinstance(node, ast.ClassDef)}
    for node in tree.body:
        if isinstance(node, ast.ImportFrom):
            tops |= {alias.asname or alias.name for alias in node.names}
    faults = []
    for node in ast.walk(tree):
        if isinstance(node, (ast.FunctionDef, ast.Lambda)):
            inner = list(ast.walk(node))[1:]
            names = [one.arg for one in inner if isinstance(one, ast.arg)]
            names += [one.id for one in inner if isinstance(one, ast.Name) and isinstance(one.ctx, ast.Store)]
            names += [one.name for one in inner if isinstance(one, ast.FunctionDef)]
            faults += ["L15" for name in names if name in tops]
    return faults


def lazy(node):
    """Whether a node makes what is to be walked on the spot."""
    if not isinstance(node, ast.Call):
        return False
    if isinstance(node.func, ast.Name):
        return node.func.id in ("zip", "enumerate", "reversed", "range")
    return isinstance(node.func, ast.Attribute) and node.func.attr in ("items", "keys", "values")


def walk_faults(tree):
    """What is not walked at once, and loops that change what they walk."""
    walkers = "list tuple dict sorted sum any all enumerate zip bytes min max join".split()
    let, faults = [], []
    for node in ast.walk(tree):
        if isinstance(node, (ast.For, ast.comprehension)):
            let.append(node.iter)
        if isinstance(node, ast.Call) and node.args and {*names_of(node.func)} & {*walkers}:
            let.append(node.args[0])
        if isinstance(node, ast.For):
            changes = [
                ast.dump(one.func.value) for row in node.body for one in ast.walk(row)
                if isinstance(one, ast.Call) and isinstance(one.func, ast.Attribute) and one.func.attr in CHANGES]
            faults += ["L23" for one in ast.walk(node.iter) if ast.dump(one) in changes]
    return faults + ["L23" for node in ast.walk(tree) if lazy(node) and not any(node is one for one in let)]


def parents_of(tree):
    """From each node to the one that it stands in."""
    return {child: node for node in ast.walk(tree) for child in ast.iter_child_nodes(node)}


def set_faults(tree):
    """Sets anywhere but behind in, beside == or !=, or straight within sorted or len; kept ones are not used here."""
    faults, parents = [], parents_of(tree)
    for node in ast.walk(tree):
        made = isinstance(node, ast.Call) and isinstance(node.func, ast.Name) and node.func.id in ("set", "frozenset")
        if made or isinstance(node, (ast.Set, ast.SetComp)):
            above = parents[node]
            asked = isinstance(above, ast.Compare) and node in above.comparators
            counted = isinstance(above, ast.Call) and isinstance(above.func, ast.Name) and not above.keywords
            if not asked and not (counted and above.func.id in ("sorted", "len")):
                faults.append("L24")
    return faults


def class_use_faults(tree, classes):
    """Classes that are kept, handed on or shown."""
    faults, parents = [], parents_of(tree)
    for node in ast.walk(tree):
        if isinstance(node, ast.Name) and node.id in classes:
            above = parents[node]
            if isinstance(above, ast.Tuple):
                above = parents[above]
            called = isinstance(above, ast.Call) and (above.func is node or names_of(above.func) == ["isinstance"])
            called = called and node not in above.args[:1]
            started = isinstance(above, ast.Attribute) and above.attr == "__init__"
            if not (called or started or isinstance(above, (ast.ClassDef, ast.ExceptHandler))):
                faults.append("L18")
    return faults


def error_faults(tree):
    """Errors of Python's own that are taken, and what is not raised on the spot; the package needs neither."""
    faults, parents = [], parents_of(tree)
    for node in ast.walk(tree):
        if isinstance(node, ast.ExceptHandler) and node.type is not None:
            faults += ["L19" for one in ast.walk(node.type) for name in names_of(one) if name in BUILTINS]
        if isinstance(node, ast.Raise):
            made = isinstance(node.exc, ast.Call) and isinstance(node.exc.func, ast.Name)
            bare = node.exc is None and isinstance(parents[node], ast.ExceptHandler)
            since = node.cause is None or (isinstance(node.cause, ast.Constant) and node.cause.value is None)
            if not (made or bare) or not since:
                faults.append("L19")
    return faults


KEYWORDS = {"sorted": {"key", "reverse"}, "min": {"key", "default"}, "max": {"key", "default"}, "sum": {"start"},
            "enumerate": {"start"}, "zip": {"strict"}}


def keyword_faults(tree):
    """Keywords at Python's own names and methods."""
    faults = []
    for node in ast.walk(tree):
        if isinstance(node, ast.Call):
            given = {one.arg for one in node.keywords}
            if isinstance(node.func, ast.Name) and node.func.id in BUILTINS:
                faults += ["L22" for one in given - KEYWORDS.get(node.func.id, set())]
            if isinstance(node.func, ast.Attribute) and node.func.attr in METHODS and given:
                faults.append("L25")
    return faults


def own_value_faults(tree):
    """Names of Python's own that are kept as values, and methods that are handed on."""
    faults, parents = [], parents_of(tree)
    for node in ast.walk(tree):
        above = parents.get(node)
        if isinstance(node, ast.Name) and node.id in OWN_NAMES and isinstance(node.ctx, ast.Load):
            key = isinstance(above, ast.keyword) and above.arg == "key"
            kind = isinstance(above, (ast.Call, ast.ClassDef, ast.ExceptHandler, ast.Attribute, ast.Tuple, ast.Raise))
            handed = isinstance(above, ast.Call) and node in above.args and names_of(above.func) != ["isinstance"]
            if not (key or kind) or handed:
                faults.append("L22")
        if isinstance(node, ast.Attribute) and node.attr in METHODS and isinstance(node.ctx, ast.Load):
            if not (isinstance(above, ast.Call) and above.func is node):
                faults.append("L25")
    return faults


def kept_top_faults(tree):
    """Lists and dicts of a file's top that are changed, or handed on as they are."""
    tops = {
        node.targets[0].id for node in tree.body
        if isinstance(node, ast.Assign) and isinstance(node.value, (ast.List, ast.Dict))}
    faults, parents = [], parents_of(tree)
    for node in ast.walk(tree):
        if isinstance(node, ast.Assign) and node in tree.body:
            inner = list(ast.walk(node.value))[1:]
            faults += ["L15" for one in inner if isinstance(one, (ast.List, ast.Dict))]
        if isinstance(node, ast.Name) and node.id in tops and isinstance(node.ctx, ast.Load):
            above = parents[node]
            asked = isinstance(above, ast.Subscript) and isinstance(above.ctx, ast.Load)
            read = isinstance(above, ast.Attribute) and above.attr not in CHANGES
            walked = isinstance(above, (ast.For, ast.comprehension, ast.Compare))
            copied = isinstance(above, ast.Call) and {*names_of(above.func)} & {*"list dict len sorted tuple".split()}
            if not (asked or read or walked or copied):
                faults.append("L15")
    return faults


def dunder_faults(tree):
    """__init__ that gives something back; other methods with two underscores are not used here."""
    faults = []
    for node in ast.walk(tree):
        if isinstance(node, ast.FunctionDef) and node.name == "__init__":
            faults += ["L28" for one in ast.walk(node) if isinstance(one, ast.Return) and one.value is not None]
        elif isinstance(node, ast.FunctionDef) and node.name.startswith("__"):
            faults.append("L28")
    return faults


def takes(node):
    """The least and the most things that a def is handed."""
    many = len(node.args.args) + len(node.args.kwonlyargs)
    return many - len(node.args.defaults) - len([one for one in node.args.kw_defaults if one]), many


def call_faults(tree, defs, methods):
    """Calls of own defs, classes and methods that hand in more or less than these take."""
    faults = []
    for node in ast.walk(tree):
        if isinstance(node, ast.Call):
            many = len(node.args) + len(node.keywords)
            if isinstance(node.func, ast.Name) and node.func.id in defs:
                least, most = defs[node.func.id]
                faults += [] if least <= many <= most else ["L22"]
            if isinstance(node.func, ast.Attribute) and node.func.attr in methods:
                least, most = methods[node.func.attr]
                faults += [] if least <= many + 1 <= most else ["L22"]
    return faults


def rule_faults(text, own_methods=frozenset(), classes=()):
    """The numbers of the rules that a file breaks."""
    tree = ast.parse(text)
    faults = size_faults(text, tree) + sign_faults(text) + top_faults(tree) + import_faults(tree)
    faults += shadow_faults(tree) + walk_faults(tree) + set_faults(tree) + error_faults(tree) + keyword_faults(tree)
    faults += own_value_faults(tree) + kept_top_faults(tree) + dunder_faults(tree)
    faults += class_use_faults(tree, {node.name for node in tree.body if isinstance(node, ast.ClassDef)} | set(classes))
    for node in ast.walk(tree):
        faults += name_faults(node) + expression_faults(node, own_methods)
        if isinstance(node, ast.ClassDef):
            faults += class_faults(node)
        if isinstance(node, (ast.FunctionDef, ast.Lambda)):
            faults += def_faults(node)
    return faults


def package_files():
    found = {}
    for name in sorted(os.listdir(PACKAGE)):
        if name != "__pycache__":
            with open(os.path.join(PACKAGE, name), encoding="utf-8", newline="") as file:
                found[name] = file.read()
    return found


def methods_of(files):
    return {row.name for node, row in rows_of_classes(files) if isinstance(row, ast.FunctionDef)}


def classes_of(files):
    return {node.name for text in files.values() for node in ast.parse(text).body if isinstance(node, ast.ClassDef)}


def rows_of_classes(files):
    """(class, row) for all that stands in the package's classes."""
    nodes = [node for text in files.values() for node in ast.parse(text).body]
    return [(node, row) for node in nodes if isinstance(node, ast.ClassDef) for row in node.body]


def values_of(files):
    """The values that are given to objects, and those that are asked of them, as two sets of names."""
    given, asked = set(), set()
    for text in files.values():
        nodes = list(ast.walk(ast.parse(text)))
        called = [node.func for node in nodes if isinstance(node, ast.Call)]
        for node in nodes:
            if isinstance(node, ast.Attribute) and not any(node is one for one in called):
                (asked if isinstance(node.ctx, ast.Load) else given).add(node.attr)
    return given, asked


def drawn_from(text):
    return [
        (node.module.split(".")[1] + ".py", alias.name)
        for node in ast.parse(text).body if isinstance(node, ast.ImportFrom) for alias in node.names
    ]


def defined_in(text):
    names = []
    for node in ast.parse(text).body:
        if isinstance(node, (ast.FunctionDef, ast.ClassDef)):
            names.append(node.name)
        if isinstance(node, ast.Assign):
            names.append(node.targets[0].id)
    return names


class PackageTests(unittest.TestCase):
    def test_files_are_called_plainly(self):
        files = package_files()
        self.assertIn("__init__.py", files)
        for name in files:
            self.assertRegex(name, r"^([a-z][a-z0-9_]*|__init__|__main__)\.py$")

    def test_each_file_keeps_to_the_rules(self):
        files = package_files()
        for name, text in files.items():
            with self.subTest(name):
                self.assertEqual(rule_faults(text, methods_of(files), classes_of(files)), [])

    def test_no_name_is_a_method_here_and_a_value_there(self):
        files = package_files()
        given, asked = values_of(files)
        self.assertEqual(given & methods_of(files), set())
        self.assertEqual(asked - given, set())

    def test_each_call_hands_in_what_is_taken(self):
        files = package_files()
        tops = [node for text in files.values() for node in ast.parse(text).body]
        defs = {node.name: takes(node) for node in tops if isinstance(node, ast.FunctionDef)}
        rows = [(node, row) for node, row in rows_of_classes(files) if isinstance(row, ast.FunctionDef)]
        made = {node.name: takes(row) for node, row in rows if row.name == "__init__"}
        defs.update({name: (least - 1, most - 1) for name, (least, most) in made.items()})
        methods = {row.name: takes(row) for node, row in rows if row.name != "__init__"}
        for name, text in files.items():
            with self.subTest(name):
                self.assertEqual(call_faults(ast.parse(text), defs, methods), [])

    def test_names_are_drawn_from_the_file_that_defines_them(self):
        files = package_files()
        for text in files.values():
            for file, name in drawn_from(text):
                self.assertIn(name, defined_in(files[file]))

    def test_no_two_files_draw_from_one_another(self):
        rest = {name: {file for file, drawn in drawn_from(text)} for name, text in package_files().items()}
        while rest:
            free = [name for name, files in rest.items() if not files & set(rest)]
            self.assertNotEqual(free, [], rest)
            for name in free:
                del rest[name]


class SampleTests(unittest.TestCase):
    """A reader that finds nothing would let all pass: each rule it knows is broken here once."""

    samples = (
        ("L2", "from os.path import join\n"), ("L2", "from .errors import WayError\n"),
        ("L2", "from wayhold.errors import *\n"), ("L3", "print_it = 1\nif print_it:\n    pass\n"),
        ("L4", "def f(*xs):\n    return xs\n"), ("L4", "def f(**xs):\n    return xs\n"),
        ("L5", "class A:\n    size = 3\n"), ("L5", "class A:\n    def __add__(self, other):\n        return other\n"),
        ("L6", "def f(x):\n    yield x\n"),
        ("L6", "def f(x):\n    for k in x:\n        pass\n    else:\n        pass\n"),
        ("L7", "def f(x):\n    return x / 2\n"), ("L7", "def f(x):\n    return x * 0.5\n"),
        ("L7", "def f(x):\n    return sum(k for k in x)\n"), ("L7", "def f(x):\n    return f'{x:>3}'\n"),
        ("L8", "def f(x):\n    return print(x)\n"), ("L10", "def f(x):\n" + "    x += 1\n" * 40),
        ("L10", "NAME = '" + "x" * 120 + "'\n"), ("L12", "def f(x):\n    _y = x\n    return _y\n"),
        ("L14", "NAME = 'caf\u00e9'\n"), ("L14", "def f(x):\n\treturn x\n"), ("L15", "A = 1\nA = 2\n"),
        ("L15", "def f(min):\n    return min\n"), ("L16", "import os\n"), ("L17", "# the type of it\n"),
        ("L17", "def f(x):\n    return getattr(x, 'y')\n"),
        ("L19", "def f(x):\n    try:\n        return x[0]\n    except Exception:\n        return 0\n"),
        ("L20", "def f(x, y):\n    return x is y\n"), ("L25", "def f(x):\n    return x.popitem()\n"),
        ("L27", "NAME = '5 %'\n"), ("L27", "NAME = '\\x41'\n"),
        ("L15", "from wayhold.errors import Full\ndef f(Full):\n    return Full\n"),
        ("L15", "from wayhold.clocks import local\ndef f(x):\n    local = x\n    return local\n"),
        ("L15", "class A:\n    pass\ndef f(x):\n    return [A for A in x]\n"),
        ("L23", "def f(x):\n    y = x.items()\n    return y\n"), ("L23", "def f(x):\n    return range(x)\n"),
        ("L23", "def f(x):\n    for k in x:\n        x.append(k)\n"),
        ("L23", "def f(x):\n    for k, y in x.items():\n        x.pop(k)\n"),
        ("L23", "def f(x):\n    return len(zip(x, x))\n"),
        ("L15", "A = [1]\ndef f(x):\n    A.append(x)\n"), ("L15", "A = {}\ndef f(x):\n    A[x] = 1\n"),
        ("L15", "A = [1]\ndef f(x):\n    return A\n"), ("L15", "A = [[1]]\n"), ("L15", "A = {1: []}\n"),
        ("L18", "class A:\n    pass\ndef f(x):\n    return [A]\n"),
        ("L18", "class A:\n    pass\ndef f(x):\n    x(A)\n"), ("L19", "def f(x):\n    raise x\n"),
        ("L19", "def f(x):\n    raise x.wrong()\n"), ("L19", "def f(x):\n    raise\n"),
        ("L19", "def f(x):\n    try:\n        return g(x)\n    except ValueError:\n        return 0\n"),
        ("L22", "def f(x):\n    return list(x, key=1)\n"), ("L22", "def f(x):\n    y = len\n    return y(x)\n"),
        ("L22", "def f(x):\n    return g(len, x)\n"), ("L25", "def f(x):\n    return x.split(sep=',')\n"),
        ("L25", "def f(x):\n    return sorted(x, key=x.index)\n"),
        ("L24", "def f(x):\n    return set(x)\n"), ("L24", "def f(x):\n    for k in {1, x}:\n        pass\n"),
        ("L24", "def f(x):\n    y = {k for k in x}\n    return y\n"), ("L24", "def f(x):\n    return list(set(x))\n"),
        ("L28", "class A:\n    def __init__(self):\n        return None\n"),
        ("L28", "class A:\n    def __len__(self):\n        return 3\n"),
    )

    def test_each_sample_is_found(self):
        for rule, text in self.samples:
            with self.subTest(rule=rule, text=text):
                self.assertIn(rule, rule_faults(text))

    def test_calls_with_more_or_less_are_found(self):
        for call in ("g(1)", "g(1, 2, 3)", "x.h()", "x.h(1, 2)", "g()"):
            tree = ast.parse("def f(x):\n    return " + call + "\n")
            self.assertEqual(call_faults(tree, {"g": (2, 2)}, {"h": (2, 2)}), ["L22"])
        tree = ast.parse("def f(x):\n    return g(1, two=2) + x.h(one=1) + x.other(1, 2, 3)\n")
        self.assertEqual(call_faults(tree, {"g": (2, 2)}, {"h": (2, 2)}), [])

    def test_values_given_and_asked_are_told_apart(self):
        files = {"a.py": "class A:\n    def b(self):\n        self.c = self.d.b()\n"}
        self.assertEqual(values_of(files), ({"c"}, {"d"}))
        self.assertEqual(methods_of(files), {"b"})

    def test_sets_classes_and_errors_where_they_may_stand(self):
        text = "from wayhold.errors import BadText, WayError\n\nWORDS = {'a': (1, 2)}\n\n\nclass Box(WayError):\n" \
               "    def __init__(self, many):\n        self.many = many\n\n\ndef f(x, y):\n    try:\n" \
               "        g(x)\n    except (Box, BadText):\n        raise\n    except WayError:\n" \
               "        raise BadText(list(WORDS).index(x)) from None\n    if x in {1, y} or len(set(y)) < len(y):\n" \
               "        return sorted({k for k in y})\n" \
               "    return Box(WORDS[x]) if isinstance(x, Box) else max(y, key=len)\n"
        self.assertEqual(rule_faults(text, classes={"BadText", "WayError"}), [])

    def test_plain_code_is_let(self):
        text = '"""Words."""\n\nfrom wayhold.errors import WayError\n\nMANY = 3\n\n\ndef f(x, *, y=MANY):\n' \
               "    if x is None:\n        raise WayError('no')\n    return [k // y for k in x]\n"
        self.assertEqual(rule_faults(text), [])


if __name__ == "__main__":
    unittest.main()
