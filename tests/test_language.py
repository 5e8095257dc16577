"""The form of the package: those of the rules L1 to L28 that can be read off the files.

A rule that is not checked here (L11 and parts of others) holds all the same.
"""

import ast
import builtins
import re
import unittest
from pathlib import Path

PACKAGE = Path(__file__).resolve().parent.parent / "driftwood"

OWN_NAMES = set("""
    len range enumerate zip min max sum abs sorted reversed int str bool list tuple dict set frozenset isinstance
    ord repr any all divmod Exception ValueError TypeError KeyError IndexError LookupError ZeroDivisionError
    ArithmeticError OverflowError RuntimeError NotImplementedError AttributeError StopIteration""".split())
METHODS = set("""
    append clear copy count endswith extend find get index insert isalnum isalpha isdigit islower isspace isupper
    items join keys ljust lower lstrip partition pop remove replace reverse rfind rjust rpartition rsplit rstrip
    setdefault split splitlines startswith strip update upper values zfill bit_length""".split())
DUNDERS = {"__init__", "__eq__", "__repr__", "__str__", "__len__"}
NO_NAMES = set("""
    register mro elements open input version_info with_traceback add_note attrgetter breakpoint builtins compile
    copyright credits delattr dir eval exec exit gc getattr globals hasattr help id importlib license locals
    methodcaller os quit setattr super type vars sys format format_map""".split())
NO_WORDS = re.compile(r"""\b(type|typing|typing_extensions|enum|Enum|IntEnum|StrEnum|Flag|IntFlag|Generic|Protocol
    |ABC|ABCMeta|namedtuple|NamedTuple|TypedDict|TYPE_CHECKING|abstractmethod)\b
    |dataclass|overload|contextmanager""", re.X)
NODES = set("""
    Module FunctionDef ClassDef arguments arg Assign AugAssign If While For Return Break Continue Pass Raise Try
    ExceptHandler Expr ImportFrom alias Name Constant List Tuple Dict Set BinOp UnaryOp BoolOp Compare IfExp Call
    Attribute Subscript Slice ListComp comprehension JoinedStr FormattedValue Lambda keyword Load Store
    Add Sub Mult FloorDiv Mod Pow BitAnd BitOr BitXor LShift RShift Invert Not USub UAdd And Or
    Eq NotEq Lt LtE Gt GtE Is IsNot In NotIn""".split())
WALKED = ("zip", "enumerate", "reversed", "range", "items", "keys", "values")
WALKERS = ("list", "tuple", "dict", "sorted", "sum", "any", "all", "enumerate", "zip", "min", "max", "join")
CLASSES_ASKED_FOR = ("int", "str", "bool", "list", "tuple", "dict", "Either", "Both")
KEYWORDS = {
    "sorted": ("key", "reverse"), "min": ("key", "default"), "max": ("key", "default"), "sum": ("start",),
    "enumerate": ("start",), "zip": ("strict",)}
# L26: what Python's own values have; some of it is free for methods, or for values.
PYTHONS_OWN = {name for kind in (str, int, list, tuple, dict, set, bytes) for name in dir(kind)}
FREE_FOR_METHODS = METHODS | {"add", "discard"} | DUNDERS
FREE_FOR_VALUES = {"count", "index", "title", "find", "get", "join", "lower", "upper", "split", "strip", "copy", "add"}
TOP_NODES = (ast.ImportFrom, ast.FunctionDef, ast.ClassDef, ast.Assign)


def text_faults(source):
    for number, line in enumerate(source.split("\n"), 1):
        if len(line) > 120:
            yield "L10", number
        if re.search("[^ -~]", line):
            yield "L14", number
        if NO_WORDS.search(line):
            yield "L17", number
    if source.count("\n") > 400:
        yield "L10", 401


def top_faults(tree):
    bound = []
    for place, node in enumerate(tree.body):
        docstring = place == 0 and isinstance(node, ast.Expr) and isinstance(node.value, ast.Constant)
        if not docstring and not isinstance(node, TOP_NODES):
            yield "L3", node.lineno
        if isinstance(node, (ast.FunctionDef, ast.ClassDef)):
            bound.append(node.name)
        if isinstance(node, ast.Assign):
            bound.extend(target.id for target in node.targets if isinstance(target, ast.Name))
    if len(bound) > len(set(bound)):
        yield "L15", 1


def def_faults(node):
    spec = node.args
    if spec.vararg or spec.kwarg or spec.kwonlyargs or spec.posonlyargs:
        yield "L4", node.lineno
    if isinstance(node, ast.FunctionDef):
        if node.decorator_list:
            yield "L4", node.lineno
        if node.end_lineno - node.lineno >= 40:
            yield "L10", node.lineno
        if node.returns or any(arg.annotation for arg in spec.args):
            yield "L21", node.lineno
    for arg in spec.args:
        if hasattr(builtins, arg.arg):
            yield "L15", node.lineno


def class_faults(node):
    if node.decorator_list or len(node.bases) > 1 or node.keywords:
        yield "L5", node.lineno
    for part in node.body:
        if not isinstance(part, (ast.FunctionDef, ast.Pass)):
            yield "L5", part.lineno


def plain_name(name):
    return name in DUNDERS or re.fullmatch("[A-Za-z][A-Za-z0-9_]*", name) is not None


def name_faults(node, line):
    for name in (getattr(node, "id", None), getattr(node, "arg", None), getattr(node, "attr", None),
                 getattr(node, "name", None)):
        if name is not None and not plain_name(name):
            yield "L12", line
        if name in NO_NAMES:
            yield "L17", line
    if isinstance(node, ast.Name) and hasattr(builtins, node.id):
        if node.id not in OWN_NAMES:
            yield "L8", line
        if isinstance(node.ctx, ast.Store):
            yield "L15", line


def value_faults(node, line):
    if isinstance(node, ast.Constant):
        if node.value is not None and not isinstance(node.value, (int, str)):
            yield "L7", line
        if isinstance(node.value, str) and chr(37) in node.value:
            yield "L27", line
    if isinstance(node, (ast.BinOp, ast.AugAssign)) and isinstance(node.op, ast.Pow):
        power = node.right if isinstance(node, ast.BinOp) else node.value
        if not isinstance(power, ast.Constant) or not 0 <= power.value <= 64:
            yield "L27", line
    if isinstance(node, ast.ListComp) and (len(node.generators) > 1 or len(node.generators[0].ifs) > 1):
        yield "L7", line
    if isinstance(node, ast.FormattedValue):
        if not isinstance(node.value, ast.Name) or node.format_spec or node.conversion not in (-1, ord("r")):
            yield "L7", line


def step_faults(node, line):
    if isinstance(node, ast.Compare):
        for mark, value in zip(node.ops, node.comparators):
            if isinstance(mark, (ast.Is, ast.IsNot)):
                if not isinstance(value, ast.Constant) or value.value not in (None, True, False):
                    yield "L20", line
    if isinstance(node, ast.Assign) and len(node.targets) > 1:
        yield "L6", line
    if isinstance(node, (ast.For, ast.While)) and node.orelse:
        yield "L6", line
    if isinstance(node, ast.Try) and node.finalbody:
        yield "L6", line
    if isinstance(node, ast.ExceptHandler) and node.type is None:
        yield "L6", line
    if isinstance(node, ast.ImportFrom):
        if node.level or not node.module.startswith("driftwood.") or any(part.name == "*" for part in node.names):
            yield "L2", line


def called_name(node):
    if not isinstance(node, ast.Call):
        return None
    return getattr(node.func, "id", None) or getattr(node.func, "attr", None)


def walk_faults(tree):
    """What must be walked on the spot, and sets, which the package does without."""
    walked = {id(node.iter) for node in ast.walk(tree) if isinstance(node, (ast.For, ast.comprehension))}
    for node in ast.walk(tree):
        if called_name(node) in WALKERS:
            walked |= {id(given) for given in node.args}
    for node in ast.walk(tree):
        if called_name(node) in WALKED and id(node) not in walked:
            yield "L23", node.lineno
        if isinstance(node, ast.Set) or called_name(node) in ("set", "frozenset"):
            yield "L24", node.lineno


def local_faults(tree):
    """Parameters and locals called like an import or a class of the file."""
    taken = {node.name for node in tree.body if isinstance(node, ast.ClassDef)}
    taken |= {part.name for node in tree.body if isinstance(node, ast.ImportFrom) for part in node.names}
    for node in ast.walk(tree):
        stored = isinstance(node, ast.Name) and isinstance(node.ctx, ast.Store) and node.id in taken
        if stored or isinstance(node, ast.arg) and node.arg in taken:
            yield "L15", node.lineno


def lambda_faults(tree):
    seen = []
    for node in ast.walk(tree):
        if isinstance(node, ast.Lambda):
            seen.append((node.lineno, [arg.arg for arg in node.args.args]))
    for place, one in enumerate(seen):
        if one in seen[:place]:
            yield "L13", one[0]


def error_faults(tree):
    """The package takes no error but its own, so no rule for Python's errors is needed."""
    own = {part.name for node in tree.body if isinstance(node, ast.ImportFrom) for part in node.names
           if node.module == "driftwood.errors"}
    for node in ast.walk(tree):
        if isinstance(node, ast.ExceptHandler) and getattr(node.type, "id", None) not in own:
            yield "L19", node.lineno
        if isinstance(node, ast.Raise) and called_name(node.exc) not in own:
            yield "L19", node.lineno


def call_faults(node):
    name, line = called_name(node), node.lineno
    if name == "isinstance" and getattr(node.args[1], "id", None) not in CLASSES_ASKED_FOR:
        yield "L22", line
    for keyword in node.keywords:
        if isinstance(node.func, ast.Name) and name in OWN_NAMES or isinstance(node.func, ast.Attribute):
            if keyword.arg not in KEYWORDS.get(name, ()):
                yield "L22", line


def kept_name_faults(tree):
    """Python's own functions are called, not kept or handed on; but as a key."""
    called = {id(node.func) for node in ast.walk(tree) if isinstance(node, ast.Call)}
    called |= {id(node.args[1]) for node in ast.walk(tree) if called_name(node) == "isinstance"}
    called |= {id(base) for node in ast.walk(tree) if isinstance(node, ast.ClassDef) for base in node.bases}
    for node in ast.walk(tree):
        if isinstance(node, ast.Name) and node.id in OWN_NAMES and id(node) not in called:
            yield "L22", node.lineno


def faults_of(source, own_methods=()):
    """The rules that a file's text breaks, as a list of pairs (rule, line)."""
    found = list(text_faults(source))
    tree = ast.parse(source)
    found += top_faults(tree)
    found += walk_faults(tree)
    found += local_faults(tree)
    found += lambda_faults(tree)
    found += error_faults(tree)
    found += kept_name_faults(tree)
    for node in ast.walk(tree):
        line = getattr(node, "lineno", 0)
        if node.__class__.__name__ not in NODES:
            found.append(("L6", line))
        if isinstance(node, (ast.FunctionDef, ast.Lambda)):
            found += def_faults(node)
        if isinstance(node, ast.ClassDef):
            found += class_faults(node)
        if isinstance(node, ast.Call):
            found += call_faults(node)
        if isinstance(node, ast.Call) and isinstance(node.func, ast.Attribute):
            if node.func.attr not in METHODS and node.func.attr not in own_methods:
                found.append(("L25", line))
        found += name_faults(node, line)
        found += value_faults(node, line)
        found += step_faults(node, line)
    return found


def package_sources():
    return {path.stem: path.read_text() for path in sorted(PACKAGE.glob("*.py"))}


def own_methods_of(sources):
    trees = [ast.parse(source) for source in sources.values()]
    classes = [node for tree in trees for node in tree.body if isinstance(node, ast.ClassDef)]
    return {part.name for node in classes for part in node.body if isinstance(part, ast.FunctionDef)}


def own_values_of(sources):
    """The names of all values that objects of the package are given."""
    nodes = [node for source in sources.values() for node in ast.walk(ast.parse(source))]
    return {node.attr for node in nodes if isinstance(node, ast.Attribute) and isinstance(node.ctx, ast.Store)}


def draws_of(source):
    """Pairs (file, name) that a file draws from the package's other files."""
    rows = [node for node in ast.parse(source).body if isinstance(node, ast.ImportFrom)]
    return [(row.module.split(".")[-1], part.name) for row in rows for part in row.names]


class Form(unittest.TestCase):
    def test_nothing_but_plainly_named_files(self):
        for path in PACKAGE.iterdir():
            if path.name != "__pycache__":
                self.assertRegex(path.name, r"\A([a-z][a-z0-9_]*|__init__|__main__)\.py\Z")

    def test_no_file_breaks_a_rule(self):
        sources = package_sources()
        own_methods = own_methods_of(sources)
        for name, source in sources.items():
            with self.subTest(name):
                self.assertEqual(faults_of(source, own_methods), [])

    def test_names_are_drawn_from_the_file_that_defines_them(self):
        sources = package_sources()
        for name, source in sources.items():
            for origin, drawn in draws_of(source):
                body = ast.parse(sources[origin]).body
                defined = {getattr(node, "name", None) for node in body}
                defined |= {node.targets[0].id for node in body if isinstance(node, ast.Assign)}
                self.assertIn(drawn, defined, name)

    def test_no_two_files_draw_from_one_another(self):
        left = {name: {origin for origin, drawn in draws_of(source)} for name, source in package_sources().items()}
        while left:
            free = [name for name, origins in left.items() if not origins & set(left)]
            self.assertNotEqual(free, [], left)
            left = {name: origins for name, origins in left.items() if name not in free}

    def test_no_name_is_a_method_and_a_value(self):
        sources = package_sources()
        self.assertEqual(own_methods_of(sources) & own_values_of(sources), set())

    def test_methods_and_values_have_free_names(self):
        sources = package_sources()
        self.assertEqual(own_methods_of(sources) & PYTHONS_OWN - FREE_FOR_METHODS, set())
        self.assertEqual(own_values_of(sources) & PYTHONS_OWN - FREE_FOR_VALUES, set())

    def test_the_init_file_binds_no_name_of_a_file(self):
        bound = {getattr(node, "name", None) for node in ast.parse(package_sources()["__init__"]).body}
        self.assertEqual(bound & set(package_sources()), set())


class TheCheckItself(unittest.TestCase):
    def test_good_code_is_taken(self):
        self.assertEqual(faults_of('"""Why."""\n\nLEAST = 3\n\n\ndef above(row):\n    return [x for x in row if x > LEAST]\n'), [])

    def test_bad_code_is_named_by_its_rule(self):
        bad = (
            ("L2", "from os.path import join\n"), ("L2", "from driftwood.boxes import *\n"), ("L3", "print(3)\n"),
            ("L4", "def f(*xs):\n    return xs\n"), ("L4", "@g\ndef f():\n    return 1\n"),
            ("L5", "class A:\n    x = 3\n"), ("L5", "class A(B, C):\n    pass\n"),
            ("L6", "def f(x):\n    assert x\n"), ("L6", "def f():\n    a = b = 1\n"), ("L6", "import os\n"),
            ("L6", "def f(xs):\n    return sum(x for x in xs)\n"), ("L6", "def f(a, b):\n    return a / b\n"),
            ("L7", "x = 1.5\n"), ("L7", "def f(a):\n    return [x for y in a for x in y]\n"),
            ("L8", "def f(x):\n    return hash(x)\n"), ("L10", "x = 1" + " " * 120 + "\n"),
            ("L10", "def f():\n" + "    x = 1\n" * 40), ("L12", "def f(low_, _):\n    return low_\n"),
            ("L14", "# \u00e9\n"), ("L14", "x = 1\t\n"), ("L15", "x = 1\nx = 2\n"), ("L15", "def f(min):\n    return min\n"),
            ("L15", "def f():\n    sum = 3\n"), ("L17", "# of one type\n"), ("L17", "def f(x):\n    return x.elements\n"),
            ("L15", "from driftwood.boxes import box_of\n\n\ndef f(box_of):\n    return 1\n"),
            ("L15", "class A:\n    pass\n\n\ndef f():\n    A = 3\n"), ("L23", "def f(xs):\n    ys = zip(xs, xs)\n"),
            ("L24", "def f(xs):\n    return set(xs)\n"), ("L24", "x = {1, 2}\n"),
            ("L13", "def f(g):\n    return g(lambda x: x, lambda x: -x)\n"),
            ("L19", "def f(x):\n    try:\n        return int(x)\n    except ValueError:\n        return 0\n"),
            ("L19", "def f():\n    raise ValueError('no')\n"), ("L22", "def f(x):\n    return isinstance(x, float)\n"),
            ("L22", "def f(x):\n    return int(x, base=3)\n"), ("L22", "def f():\n    return len\n"),
            ("L20", "def f(a, b):\n    return a is b\n"), ("L21", "def f(a: int):\n    return a\n"),
            ("L25", "def f(xs):\n    xs.sort()\n"), ("L27", "def f(n):\n    return 2 ** n\n"), ("L27", "x = '%'\n"))
        for rule, source in bad:
            with self.subTest(source):
                self.assertIn(rule, [fault[0] for fault in faults_of(source)])


if __name__ == "__main__":
    unittest.main()
