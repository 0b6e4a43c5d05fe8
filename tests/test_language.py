"""LANGUAGE.md, where a test can see it: the checks, what they must find, and that the package is free of it."""

import ast
import builtins
import io
import keyword
import pathlib
import re
import sys
import tokenize
import unittest
import warnings

PACKAGE = pathlib.Path(__file__).resolve().parent.parent / "wavehall"

ERRORS = set("""Exception ValueError TypeError KeyError IndexError LookupError ZeroDivisionError ArithmeticError
    OverflowError RuntimeError NotImplementedError AttributeError StopIteration""".split())
BUILTINS = ERRORS | set("""len range enumerate zip min max sum abs sorted reversed int str bool bytes list tuple dict
    set isinstance ord repr any all divmod NotImplemented iter next super property staticmethod classmethod""".split())
METHODS = set("""append clear copy count endswith extend find get index insert isalnum isalpha isdigit islower isspace
    isupper items join keys ljust lower lstrip partition pop remove replace reverse rfind rjust rpartition rsplit
    rstrip setdefault split splitlines startswith strip update upper values zfill bit_length title capitalize swapcase
    casefold center expandtabs removeprefix removesuffix rindex isascii isdecimal isnumeric istitle isidentifier
    isprintable translate maketrans encode decode hex from_bytes sort add discard""".split())
OPERATORS = set("""lt le gt ge ne neg pos invert abs bool contains getitem setitem""".split()) | {
    lead + sign for lead in ("", "r", "i")
    for sign in "add sub mul floordiv mod pow and or xor lshift rshift".split()} - {"rpow"}
DUNDERS = {f"__{word}__" for word in OPERATORS | set("init eq repr str len enter exit call iter".split())}
DUNDER_NAMES = DUNDERS | {"__slots__", "__all__", "__version__", "__name__"}
NOWHERE = set("register mro elements open input version_info with_traceback add_note format format_map".split())
NOT_NAMES = set("""attrgetter breakpoint builtins compile copyright credits delattr dir eval exec exit gc getattr
    globals hasattr help id importlib license locals methodcaller os quit setattr type vars sys""".split())
WORDS = set("""type typing typing_extensions enum Enum IntEnum StrEnum Flag IntFlag Generic Protocol ABC ABCMeta
    namedtuple NamedTuple TypedDict TYPE_CHECKING abstractmethod""".split())
LOOSE_WORDS = ("dataclass", "overload", "contextmanager")
FILE_NAMES = re.compile(r"law_.*|tests?|testing|test_.*|site|conftest|sitecustomize|usercustomize")
STATEMENTS = (
    ast.Assign, ast.AugAssign, ast.AnnAssign, ast.If, ast.While, ast.For, ast.Return, ast.Break, ast.Continue,
    ast.Pass, ast.Raise, ast.Assert, ast.Delete, ast.Nonlocal, ast.Match, ast.With, ast.Try, ast.Expr,
    ast.FunctionDef, ast.ClassDef, ast.Import, ast.ImportFrom)
VIEWS = {"zip", "enumerate", "reversed", "range", "items", "keys", "values"}
TAKERS = {"list", "tuple", "dict", "sorted", "sum", "any", "all", "enumerate", "zip", "bytes", "min", "max", "join",
          "iter", "next"}
CHANGERS = {"append", "clear", "extend", "insert", "pop", "remove", "reverse", "setdefault", "update", "sort"}
COMPREHENSIONS = (ast.ListComp, ast.SetComp, ast.DictComp, ast.GeneratorExp)


class File:
    """One file of a package: its text, its tree, and of each node the one around it."""

    def __init__(self, name, text):
        self.name = name
        self.text = text
        self.tree = ast.parse(text)
        self.nodes = list(ast.walk(self.tree))
        self.around = {child: node for node in self.nodes for child in ast.iter_child_nodes(node)}

    def of(self, *kinds):
        return [node for node in self.nodes if isinstance(node, kinds)]


def called(node):
    """The name that a call calls, of a function or a method."""
    if not isinstance(node, ast.Call):
        return None
    return getattr(node.func, "id", None) or getattr(node.func, "attr", None)


def bound(node):
    """The names that a node gives a meaning to."""
    if isinstance(node, ast.Name) and isinstance(node.ctx, ast.Store):
        return [node.id]
    if isinstance(node, ast.arg):
        return [node.arg]
    if isinstance(node, (ast.FunctionDef, ast.ClassDef)):
        return [node.name]
    if isinstance(node, ast.ImportFrom):
        return [part.asname or part.name for part in node.names]
    if isinstance(node, (ast.ExceptHandler, ast.MatchAs, ast.MatchStar)) and node.name:
        return [node.name]
    return []


def files_and_sizes(file):
    if not re.fullmatch(r"[a-z][a-z0-9_]*|__init__|__main__", file.name):
        yield "L1", 1
    if FILE_NAMES.fullmatch(file.name) or file.name in dir(builtins) and file.name[0] != "_":
        yield "L14", 1
    rows = file.text.splitlines()
    if len(rows) > 400:
        yield "L10", 401
    for at, row in enumerate(rows, 1):
        if len(row) > 120 or "\t" in row:
            yield "L10", at
    for node in file.of(ast.FunctionDef):
        if node.end_lineno - node.lineno + 1 > 40:
            yield "L10", node.lineno
    for at, row in enumerate(file.text.split("\n"), 1):
        if any(not " " <= sign <= "~" for sign in row.replace("\t", "")):
            yield "L14", at
        if WORDS & set(re.findall(r"\w+", row)) or any(word in row for word in LOOSE_WORDS):
            yield "L17", at


def imports(file):
    for node in file.of(ast.Import):
        yield "L2", node.lineno
    for node in file.of(ast.ImportFrom):
        if node.level or not re.fullmatch(r"wavehall\.\w+|__future__", node.module or ""):
            yield "L2", node.lineno
        if any(part.name == "*" for part in node.names):
            yield "L2", node.lineno
        if file.around[node] != file.tree or file.name == "__init__":
            yield "L16", node.lineno
    kinds = [isinstance(node, (ast.Import, ast.ImportFrom)) for node in file.tree.body if not is_docstring(node)]
    if kinds != sorted(kinds, reverse=True):
        yield "L2", 1


def is_docstring(node):
    return isinstance(node, ast.Expr) and isinstance(node.value, ast.Constant) and isinstance(node.value.value, str)


def module_level(file):
    seen = set()
    for node in file.tree.body:
        if isinstance(node, ast.Assign):
            if len(node.targets) != 1 or not isinstance(node.targets[0], ast.Name):
                yield "L3", node.lineno
            if any(isinstance(part, (ast.Call, ast.Set, ast.Lambda, ast.Attribute) + COMPREHENSIONS)
                   for part in ast.walk(node.value)):
                yield "L3", node.lineno
        elif not is_docstring(node) and not isinstance(
                node, (ast.Import, ast.ImportFrom, ast.FunctionDef, ast.ClassDef, ast.AnnAssign)):
            yield "L3", node.lineno
        for part in [node] + getattr(node, "targets", []):
            for name in bound(part):
                if name in seen:
                    yield "L15", node.lineno
                seen.add(name)
    for node in file.of(ast.ClassDef):
        if file.around[node] != file.tree:
            yield "L15", node.lineno


def functions(file):
    for node in file.of(ast.FunctionDef):
        in_class = isinstance(file.around[node], ast.ClassDef)
        if node.args.posonlyargs or (node.decorator_list and not in_class):
            yield "L4", node.lineno
        if any(isinstance(part, (ast.List, ast.Dict, ast.Set, ast.Call))
               for part in node.args.defaults + node.args.kw_defaults):
            yield "L4", node.lineno
        if re.fullmatch(r"__.*__", node.name) and (node.name not in DUNDERS or not in_class):
            yield "L5", node.lineno
    for node in file.of(ast.ClassDef):
        if node.decorator_list or node.keywords or not all(isinstance(base, ast.Name) for base in node.bases):
            yield "L5", node.lineno


def statements(file):
    for node in file.of(ast.stmt):
        if not isinstance(node, STATEMENTS):
            yield "L6", node.lineno
        elif isinstance(node, ast.Expr) and not (
                is_docstring(node) or isinstance(node.value, (ast.Call, ast.Yield, ast.YieldFrom))):
            yield "L6", node.lineno
    for node in file.of(ast.ExceptHandler):
        kinds = [getattr(kind, "id", None) for kind in getattr(node.type, "elts", [node.type])]
        if not kinds or None in kinds or {"Exception", "TypeError", "BaseException"} & set(kinds):
            yield "L19", node.lineno
    for node in file.of(ast.Raise):
        if node.exc is not None and not (isinstance(node.exc, ast.Call) and isinstance(node.exc.func, ast.Name)):
            yield "L19", node.lineno


def withs(file):
    for node in file.of(ast.With):
        for part in node.items:
            if not isinstance(part.context_expr, (ast.Call, ast.Name, ast.Attribute)) or not isinstance(
                    part.optional_vars, (ast.Name, type(None))):
                yield "L6", node.lineno
    for node in file.of(ast.FunctionDef):
        if node.name == "__exit__":
            rows = [row for row in node.body if not is_docstring(row)]
            yield from (("L6", row.lineno) for row in rows if not is_leaving(row))


def is_leaving(row):
    """Whether a row may stand in an __exit__: of those that may, the plainest only."""
    if isinstance(row, ast.Assign):
        plain = (ast.Name, ast.Attribute, ast.Constant)
        return isinstance(row.targets[0], ast.Attribute) and isinstance(row.value, plain) and len(row.targets) == 1
    return isinstance(row, ast.Pass)


def expressions(file):
    for node in file.of(ast.Constant):
        if isinstance(node.value, (float, complex)):
            yield "L7", node.lineno
        if isinstance(node.value, str) and "%" in node.value:
            yield "L27", node.lineno
    for node in file.of(ast.Div, ast.MatMult):
        yield "L7", file.around[node].lineno
    for node in file.of(ast.BinOp):
        if isinstance(node.op, ast.Pow) and not (
                isinstance(node.right, ast.Constant) and node.right.value in range(65)):
            yield "L27", node.lineno
    for node in file.of(ast.Compare):
        for sign, part in zip(node.ops, node.comparators):
            if isinstance(sign, (ast.Is, ast.IsNot)) and not (
                    isinstance(part, ast.Constant) and (part.value is None or isinstance(part.value, bool))):
                yield "L20", node.lineno
    for node in file.of(ast.GeneratorExp):
        taker = file.around[node]
        if called(taker) not in TAKERS or node not in taker.args:
            yield "L7", node.lineno
    for token in tokenize.generate_tokens(io.StringIO(file.text).readline):
        if token.type == tokenize.STRING and not token.string.startswith("b"):
            if re.search(r"\\[^nt\\'\"]", token.string.replace("\\\\", "")):
                yield "L27", token.start[0]


def names(file):
    taken = {name for node in file.of(ast.ClassDef, ast.ImportFrom) for name in bound(node)}
    for node in file.nodes:
        for name in bound(node):
            at = getattr(node, "lineno", 1)
            if not re.fullmatch(r"[A-Za-z][A-Za-z0-9_]*", name) and name not in DUNDER_NAMES:
                yield "L12", at
            if name in NOWHERE or name in NOT_NAMES:
                yield "L17", at
            method = isinstance(node, ast.FunctionDef) and isinstance(file.around[node], ast.ClassDef)
            if hasattr(builtins, name) and not method:
                yield "L15", at
            if name in taken and not isinstance(node, (ast.ClassDef, ast.ImportFrom)) and not method:
                yield "L15", at
    for node in file.of(ast.Name):
        if isinstance(node.ctx, ast.Load) and hasattr(builtins, node.id) and node.id not in BUILTINS:
            yield "L8", node.lineno
    for node in file.of(ast.Attribute):
        if node.attr in NOWHERE or keyword.iskeyword(node.attr):
            yield "L17", node.lineno
        if node.attr.startswith("_") and node.attr not in DUNDER_NAMES:
            yield "L12", node.lineno


def calls(file):
    for node in file.of(ast.Call):
        if called(node) == "isinstance":
            kinds = node.args[1].elts if isinstance(node.args[1], ast.Tuple) else [node.args[1]]
            if any(getattr(kind, "id", "set") in ("set", "frozenset", "float", "object") for kind in kinds):
                yield "L22", node.lineno
        elif getattr(node.func, "id", None) in BUILTINS - ERRORS:
            if any(part.arg not in ("key", "reverse", "default", "start", "strict") for part in node.keywords):
                yield "L22", node.lineno
        if called(node) in VIEWS and not is_iterated(file, node):
            yield "L23", node.lineno
        if getattr(node.func, "id", None) == "set" and not is_set_place(file, node):
            yield "L24", node.lineno
    for node in file.of(ast.Name):
        around = file.around[node]
        if node.id in BUILTINS - ERRORS and isinstance(around, ast.Assign) and node == around.value:
            yield "L22", node.lineno
    for node in file.of(ast.For):
        for part in ast.walk(ast.Module(node.body, [])):
            if isinstance(part, ast.Call) and called(part) in CHANGERS and isinstance(part.func, ast.Attribute):
                if ast.dump(part.func.value) in [ast.dump(row) for row in iterated(node.iter)]:
                    yield "L23", part.lineno


def iterated(node):
    """What a loop iterates over, also through enumerate and its like."""
    if called(node) in VIEWS:
        rows = node.args or [node.func.value]
        return [part for row in rows for part in iterated(row)]
    return [node]


def is_iterated(file, node):
    around = file.around[node]
    if isinstance(around, (ast.For, ast.comprehension)):
        return around.iter == node
    if isinstance(around, ast.Compare):
        return isinstance(around.ops[0], (ast.In, ast.NotIn))
    return called(around) in TAKERS | {"reversed", "len"}


def is_set_place(file, node):
    around = file.around[node]
    if isinstance(around, ast.Assign):
        return isinstance(around.targets[0], ast.Name)
    return isinstance(around, (ast.Compare, ast.BinOp)) or called(around) in ("sorted", "len")


CHECKS = (files_and_sizes, imports, module_level, functions, statements, withs, expressions, names, calls)


def whole_package(files):
    """What shows in no one file: names that are a method here and an attribute there, imports in a ring."""
    methods, attributes, above = set(), set(), {}
    for file in files:
        methods |= {part.name for node in file.of(ast.ClassDef) for part in node.body
                    if isinstance(part, ast.FunctionDef)}
        attributes |= {node.attr for node in file.of(ast.Attribute) if isinstance(node.ctx, ast.Store)}
        above[file.name] = {node.module.partition(".")[2] for node in file.of(ast.ImportFrom)} & {
            other.name for other in files}
    for file in files:
        for node in file.of(ast.Attribute):
            if node.attr not in methods | attributes | METHODS | DUNDERS:
                yield file.name, "L25", node.lineno
            if node.attr in methods & attributes:
                yield file.name, "L18", node.lineno
        for node in file.of(ast.ImportFrom):
            yield from missing(file, node, files)
    while above:
        ready = [name for name in above if not above[name] & set(above)]
        if not ready:
            yield sorted(above)[0], "L16", 1
            return
        for name in ready:
            del above[name]


def missing(file, node, files):
    """Imports of what the named file doesn't define itself."""
    for other in files:
        if node.module == f"wavehall.{other.name}":
            own = {name for part in other.tree.body if not isinstance(part, ast.ImportFrom)
                   for target in [part] + getattr(part, "targets", []) for name in bound(target)}
            if not {part.name for part in node.names} <= own:
                yield file.name, "L16", node.lineno


def faults(texts):
    """All faults that the checks find in files of these names and texts: (file, rule, line)."""
    files = [File(name, texts[name]) for name in texts]
    found = [(file.name, rule, at) for file in files for check in CHECKS for rule, at in check(file)]
    return sorted(set(found + list(whole_package(files))))


WRONG = {
    "L1": [{"Bad": ""}],
    "L2": ["import sys\n", "from os import path\n", "from .errors import x\n", "from wavehall.errors import *\n",
           "k = 1\nfrom wavehall.errors import x\n"],
    "L3": ["print(1)\n", "k = len('ab')\n", "k = [x for x in (1, 2)]\n", "a, b = 1, 2\n", "k = lambda x: x\n",
           "for k in (1, 2):\n    pass\n", "k = {1, 2}\n"],
    "L4": ["def f(a, /):\n    return a\n", "def f(a=[]):\n    return a\n",
           "def g(h):\n    return h\n@g\ndef f():\n    pass\n"],
    "L5": ["class A:\n    def __hash__(self):\n        return 1\n", "def __len__(a):\n    return 1\n",
           "class A(metaclass=int):\n    pass\n"],
    "L6": ["def f():\n    global k\n    k = 1\n", "async def f():\n    pass\n", "def f(a):\n    a\n",
           "def f(a):\n    a == 1\n", "def f(a):\n    with a[0]:\n        pass\n",
           "def f(a, b):\n    with a as b.c:\n        pass\n",
           "class A:\n    def __exit__(self, *told):\n        self.k = len(self.rows)\n",
           "class A:\n    def __exit__(self, *told):\n        return True\n"],
    "L7": ["k = 1.5\n", "def f(a):\n    return a / 2\n", "def f(a):\n    return (x for x in a)\n"],
    "L8": ["def f(a):\n    return hash(a)\n", "def f(a):\n    return round(a)\n", "def f(a):\n    print(a)\n",
           "def f(a):\n    return chr(a)\n"],
    "L10": ["# " + "x" * 119 + "\n", "\n" * 401, "def f():\n" + "    pass\n" * 40, "def f():\n\treturn 1\n"],
    "L12": ["def _f():\n    pass\n", "def f(a):\n    return [1 for _ in a]\n", "def f(a):\n    return a._b\n"],
    "L14": ["# caf\u00e9\n", {"test_x": ""}, {"filter": ""}],
    "L15": ["def f(list):\n    return list\n", "def f():\n    id = 1\n", "k = 1\nk = 2\n",
            "from wavehall.errors import x\ndef f(x):\n    return x\n",
            "class A:\n    pass\ndef f():\n    A = 1\n    return A\n"],
    "L16": [{"a": "from wavehall.b import k\nj = 1\n", "b": "from wavehall.a import j\nk = 1\n"},
            {"a": "from wavehall.b import k\n", "b": "from wavehall.c import k\n", "c": "k = 1\n"},
            "def f():\n    from wavehall.errors import x\n    return x\n"],
    "L17": ["# a type\n", "def compile():\n    pass\n", "def f(open):\n    return 1\n", "k = 'dataclasses'\n"],
    "L18": ["class A:\n    def many(self):\n        return 1\n"
            "class B:\n    def __init__(self):\n        self.many = 1\n"],
    "L19": ["def f():\n    try:\n        return 1\n    except:\n        return 2\n",
            "def f():\n    try:\n        return 1\n    except Exception:\n        return 2\n",
            "def f(e):\n    raise e\n", "def f():\n    raise ValueError\n"],
    "L20": ["def f(a):\n    return a is 1\n", "def f(a, b):\n    return a is not b\n"],
    "L22": ["def f(a):\n    return isinstance(a, set)\n", "def f():\n    k = len\n    return k\n",
            "def f(a):\n    return int(a, base=2)\n"],
    "L23": ["def f(a):\n    k = zip(a, a)\n    return k\n", "def f(a):\n    return a.items()\n",
            "def f(a):\n    for x in a:\n        a.append(x)\n",
            "def f(a):\n    for k, x in enumerate(a):\n        a.pop()\n"],
    "L24": ["def f(a):\n    return set(a)\n", "def f(a):\n    return [set(a)]\n"],
    "L25": ["def f(a):\n    return a.popitem()\n", "def f(a):\n    return a.isdisjoint(a)\n"],
    "L27": ["k = 'a%b'\n", "def f(a):\n    return 2 ** a\n", "k = 'a\\x41'\n"],
}


class Checks(unittest.TestCase):
    def test_each_finds_what_is_wrong(self):
        for rule, samples in WRONG.items():
            for sample in samples:
                with self.subTest(rule, sample=sample):
                    texts = sample if isinstance(sample, dict) else {"sample": sample}
                    self.assertIn(rule, [row[1] for row in faults(texts)])

    def test_none_finds_what_is_right(self):
        rows = "def f():\n" + "    pass\n" * 39 + "# " + "x" * 118 + "\n" * 360
        self.assertEqual(faults({"sample": rows}), [])
        self.assertEqual(faults({"sample": (
            "k = (1, 'a', -2)\ndef f(a, *, b=1):\n    seen = set(a)\n    for x, y in zip(a, a):\n"
            "        seen.add(x)\n    return [x for x in a if x is not None and x in seen and b ** 2]\n")}), [])
        self.assertEqual(faults({"sample": (
            "class A:\n    def __init__(self, box):\n        self.box = box\n    def __enter__(self):\n"
            "        self.box.held = True\n    def __exit__(self, *told):\n        self.box.held = False\n"
            "def f(box):\n    with A(box):\n        return 1\n")}), [])


class Package(unittest.TestCase):
    def test_its_folder_holds_only_its_files(self):
        names = [path.name for path in PACKAGE.iterdir() if path.name != "__pycache__"]
        self.assertIn("__init__.py", names)
        self.assertEqual([name for name in names if not name.endswith(".py")], [])
        self.assertLessEqual(len(names), 100)

    def test_it_is_free_of_faults(self):
        texts = {path.stem: path.read_text(encoding="ascii") for path in PACKAGE.glob("*.py")}
        self.assertGreaterEqual(set(texts), {"errors", "airs", "cures", "plans", "moves", "house"})
        self.assertEqual(faults(texts), [])

    def test_python_gives_no_warning(self):
        with warnings.catch_warnings():
            warnings.simplefilter("error")
            for path in PACKAGE.glob("*.py"):
                compile(path.read_text(encoding="ascii"), str(path), "exec")

    def test_it_has_no_name_of_the_standard_library(self):
        self.assertNotIn(PACKAGE.name, sys.stdlib_module_names)
