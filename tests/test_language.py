"""The package's files keep to the plain part of Python that they are written in.

The checks are narrower than the rules need: what the package has no use for is not let at all.
"""

import ast
import builtins
import pathlib
import re
import unittest

PACKAGE = pathlib.Path(__file__).resolve().parent.parent / "lineswitch"
FILES = sorted(PACKAGE.rglob("*.py"))
PYTHONS_OWN = dir(builtins)
LET_NAMES = set(
    "len range enumerate zip min max sum abs sorted reversed int str bool list tuple dict "
    "isinstance ord repr any all divmod ValueError KeyError ZeroDivisionError".split()
)
LET_NODES = tuple(
    getattr(ast, name) for name in (
        "Module FunctionDef ClassDef arguments arg ImportFrom alias Assign AugAssign If While For "
        "Return Break Continue Pass Raise Try ExceptHandler Expr Constant Name Attribute Subscript "
        "Slice Tuple List Dict ListComp DictComp comprehension BinOp UnaryOp BoolOp Compare IfExp "
        "Call keyword Lambda JoinedStr FormattedValue expr_context unaryop boolop cmpop Add Sub "
        "Mult FloorDiv Mod Pow LShift RShift BitAnd BitOr BitXor"
    ).split()
)
LET_METHODS = set(
    "append clear copy count endswith extend find get index insert isalnum isalpha isdigit islower "
    "isspace isupper items join keys ljust lower lstrip partition pop remove replace reverse rfind "
    "rjust rpartition rsplit rstrip setdefault split splitlines startswith strip update upper "
    "values zfill bit_length".split()
)
VALUES_OF_PYTHON = {
    name for kind in (str, int, list, dict, set, bytes, tuple, ValueError) for name in dir(kind)
}
NAMES_NOT_USED = set(
    "register mro elements open input version_info with_traceback add_note attrgetter breakpoint "
    "builtins compile copyright credits delattr dir eval exec exit gc getattr globals hasattr help "
    "id importlib license locals methodcaller os quit setattr super type vars sys".split()
)
WORDS_NOT_USED = re.compile(
    r"\b(type|typing|typing_extensions|enum|Enum|IntEnum|StrEnum|Flag|IntFlag|Generic|Protocol"
    r"|ABC|ABCMeta|namedtuple|NamedTuple|TypedDict|TYPE_CHECKING|abstractmethod)\b"
    r"|dataclass|overload|contextmanager"
)
WALKED = ("range", "zip", "enumerate", "reversed")
WALKERS = (
    "list", "tuple", "dict", "sorted", "sum", "any", "all", "enumerate", "zip", "min", "max"
)
CHANGES = (
    "append", "clear", "extend", "insert", "pop", "remove", "reverse", "setdefault", "update", "sort"
)
KEYWORDS = {
    "sorted": ("key", "reverse"), "min": ("key", "default"), "max": ("key", "default"),
    "sum": ("start",), "enumerate": ("start",), "zip": ("strict",),
}


def called(node):
    """The plain name that a call calls, else None."""
    return node.func.id if isinstance(node, ast.Call) and isinstance(node.func, ast.Name) else None


def of_kind(tree, *kinds):
    return [node for node in ast.walk(tree) if isinstance(node, kinds)]


def sign_faults(text):
    rows = text.split("\n")
    if not text.isascii() or not all(row.isprintable() for row in rows):
        yield "a sign"
    if len(rows) > 400 or max(len(row) for row in rows) > 120:
        yield "too long"
    if WORDS_NOT_USED.search(text):
        yield "a word"
    if re.search(r"\\[^nt\\\"']", text):
        yield "an escape"


def is_plain(node):
    """Whether a value of a top, or a default, is plain and can't be changed."""
    if isinstance(node, ast.Tuple):
        return all(is_plain(part) for part in node.elts)
    return isinstance(node, ast.Constant)


def is_docstring(node):
    return isinstance(node, ast.Expr) and isinstance(node.value, ast.Constant)


def top_faults(tree):
    bound = []
    for node in tree.body:
        if isinstance(node, ast.Assign):
            if len(node.targets) > 1 or not isinstance(node.targets[0], ast.Name):
                yield "a top's assignment"
            elif not is_plain(node.value):
                yield "a top's value"
            bound += [name.id for name in of_kind(node, ast.Name) if isinstance(name.ctx, ast.Store)]
        elif isinstance(node, (ast.FunctionDef, ast.ClassDef)):
            bound.append(node.name)
        elif isinstance(node, ast.ImportFrom):
            bound += [alias.asname or alias.name for alias in node.names]
        elif not is_docstring(node):
            yield "a top's row"
    if len(bound) > len(set(bound)):
        yield "a name bound twice"


def form_faults(tree):
    for node in ast.walk(tree):
        if not isinstance(node, LET_NODES):
            yield f"{ast.dump(node)[:40]} is not let"
        if isinstance(node, ast.Constant) and isinstance(node.value, (float, complex, bytes)):
            yield "a float or bytes"
        if isinstance(node, ast.Constant) and isinstance(node.value, str) and "%" in node.value:
            yield "a percent sign"
        if isinstance(node, (ast.For, ast.While)) and node.orelse:
            yield "an else behind a loop"
        if isinstance(node, ast.Try) and node.finalbody:
            yield "a finally"
        if isinstance(node, ast.FormattedValue) and node.format_spec is not None:
            yield "a format"
        if isinstance(node, ast.BinOp) and isinstance(node.op, ast.Pow):
            if not isinstance(node.right, ast.Constant) or not 0 <= node.right.value <= 64:
                yield "an exponent"
        if isinstance(node, ast.Compare):
            for op, right in zip(node.ops, node.comparators):
                if isinstance(op, (ast.Is, ast.IsNot)) and not (
                    isinstance(right, ast.Constant) and right.value in (None, True, False)
                ):
                    yield "an is"


def def_faults(tree):
    for node in of_kind(tree, ast.FunctionDef):
        given = node.args
        if node.end_lineno - node.lineno + 1 > 40:
            yield "a long def"
        if node.decorator_list or given.vararg or given.kwarg or given.posonlyargs:
            yield "a def's form"
        if not all(is_plain(default) for default in given.defaults):
            yield "a default"
        if node.returns or any(argument.annotation for argument in given.args):
            yield "an annotation"
    for node in of_kind(tree, ast.ClassDef):
        if node.decorator_list or node.keywords or len(node.bases) > 1 or node not in tree.body:
            yield "a class's form"
        methods = [part.name for part in node.body if isinstance(part, ast.FunctionDef)]
        if len(methods) > len(set(methods)):
            yield "a method twice"
        if any(name.startswith("__") and name != "__init__" for name in methods):
            yield "a method with two underscores"
        if not all(isinstance(part, ast.FunctionDef) or is_docstring(part) for part in node.body):
            yield "a class's body"


def names_given(tree):
    for node in ast.walk(tree):
        if isinstance(node, ast.Name) and isinstance(node.ctx, ast.Store):
            yield node.id
        elif isinstance(node, ast.arg):
            yield node.arg
        elif isinstance(node, (ast.FunctionDef, ast.ClassDef, ast.ExceptHandler)) and node.name:
            yield node.name


def name_faults(tree):
    drawn = [alias.name for node in of_kind(tree, ast.ImportFrom) for alias in node.names]
    classes = [node.name for node in of_kind(tree, ast.ClassDef)]
    given = list(names_given(tree))
    asked = [node.attr for node in of_kind(tree, ast.Attribute)]
    for name in given:
        if name in drawn or name in PYTHONS_OWN or given.count(name) > 1 and name in classes:
            yield f"{name} given another meaning"
    for name in given + [name for name in asked if name != "__init__"]:
        if name in NAMES_NOT_USED or name.startswith("_") and name != "__init__":
            yield f"the name {name}"
    for node in of_kind(tree, ast.Name):
        if node.id in PYTHONS_OWN and node.id not in LET_NAMES:
            yield f"Python's own {node.id}"


def call_faults(tree):
    for node in of_kind(tree, ast.Call):
        name = called(node)
        if name in PYTHONS_OWN:
            for keyword in node.keywords:
                if keyword.arg not in KEYWORDS.get(name, ()):
                    yield "a keyword"
        if isinstance(node.func, ast.Attribute) and node.keywords:
            yield "a keyword"
        if isinstance(node.func, (ast.Call, ast.Subscript, ast.Constant, ast.Lambda)):
            yield "a call of what has no name"
    for node in of_kind(tree, ast.Raise):
        if not (isinstance(node.exc, ast.Call) and called(node.exc)) or node.cause:
            yield "a raise"
    for node in of_kind(tree, ast.ExceptHandler):
        if not isinstance(node.type, ast.Name):
            yield "a handler"


def walk_faults(tree):
    """Yield what is to be walked on the spot and isn't."""
    walked = []
    for node in ast.walk(tree):
        if isinstance(node, (ast.For, ast.comprehension)):
            walked.append(node.iter)
        elif called(node) in WALKERS:
            walked += node.args if called(node) == "zip" else node.args[:1]
        elif isinstance(node, ast.Compare):
            walked += [part for part in node.comparators if called(part) == "range"]
    for node in of_kind(tree, ast.Call):
        is_view = isinstance(node.func, ast.Attribute) and node.func.attr in ("items", "keys", "values")
        if (called(node) in WALKED or is_view) and node not in walked:
            yield "something kept that is walked"


def plain_names(node):
    return {part.id for part in of_kind(node, ast.Name)}


def change_faults(tree):
    """Yield changes of what is walked just then."""
    for loop in of_kind(tree, ast.For, ast.ListComp, ast.DictComp):
        parts = [loop.iter] if isinstance(loop, ast.For) else [part.iter for part in loop.generators]
        walked = set().union(*[plain_names(part) for part in parts])
        for node in of_kind(loop, ast.Call, ast.Subscript):
            if isinstance(node, ast.Call):
                changes = isinstance(node.func, ast.Attribute) and node.func.attr in CHANGES
                if changes and plain_names(node.func.value) & walked:
                    yield "a change of what is walked"
            elif isinstance(node.ctx, ast.Store) and plain_names(node.value) & walked:
                yield "a change of what is walked"


def arity_faults(trees):
    """Yield calls of own defs, classes and methods that hand in too much or too little."""
    takes = {}
    for node in [part for tree in trees for part in of_kind(tree, ast.FunctionDef)]:
        most = len(node.args.args)
        takes.setdefault(node.name, []).append((most - len(node.args.defaults), most))
    for node in [part for tree in trees for part in of_kind(tree, ast.Call)]:
        is_method = isinstance(node.func, ast.Attribute) and node.func.attr != "__init__"
        name = node.func.attr if isinstance(node.func, ast.Attribute) else called(node)
        many = len(node.args) + len(node.keywords) + is_method
        if name != "__init__" and not any(low <= many <= high for low, high in takes.get(name, [(0, 99)])):
            yield f"a call of {name}"


def class_faults(tree):
    """Yield classes of errors that are handed on or kept."""
    let = []
    for node in ast.walk(tree):
        if isinstance(node, ast.Call):
            let.append(node.func)
            let += node.args[1:] if called(node) == "isinstance" else []
        elif isinstance(node, ast.ClassDef):
            let += node.bases
        elif isinstance(node, ast.ExceptHandler):
            let.append(node.type)
        elif isinstance(node, ast.Attribute) and node.attr == "__init__":
            let.append(node.value)
    for node in of_kind(tree, ast.Name):
        if node.id[0].isupper() and not node.id.isupper() and node not in let:
            yield f"the class {node.id} kept or handed on"


def object_faults(trees):
    """Yield what is wrong with the methods and values of all classes together."""
    methods = {
        part.name for tree in trees for node in of_kind(tree, ast.ClassDef)
        for part in node.body if isinstance(part, ast.FunctionDef)
    }
    nodes = [node for tree in trees for node in of_kind(tree, ast.Attribute)]
    calls = [node.func for tree in trees for node in of_kind(tree, ast.Call)]
    values = {node.attr for node in nodes if isinstance(node.ctx, ast.Store)}
    for name in sorted(values & (methods | VALUES_OF_PYTHON)):
        yield f"the value {name}"
    for name in sorted((methods - {"__init__"}) & VALUES_OF_PYTHON):
        yield f"the method {name}"
    for node in nodes:
        let = methods | LET_METHODS if node in calls else values
        if node.attr not in let:
            yield f"{node.attr} asked"


def import_faults(trees):
    """Yield what is wrong with the import rows of files, told by their names."""
    drawn = {name: [] for name in trees}
    for name, tree in trees.items():
        for node in of_kind(tree, ast.ImportFrom):
            package, dot, module = (node.module or "").partition(".")
            if node.level or package != "lineswitch" or module not in trees or name == "__init__":
                yield f"{name} draws from {node.module}"
                continue
            drawn[name].append(module)
            own = [part.name for part in trees[module].body if hasattr(part, "name")] + [
                part.targets[0].id for part in trees[module].body if isinstance(part, ast.Assign)
            ]
            if any(alias.name not in own or alias.asname for alias in node.names):
                yield f"{name} draws what {module} doesn't define"
    while any(drawn.values()):
        done = [name for name in drawn if not drawn[name]]
        if not done:
            yield "files draw from one another"
            return
        drawn = {
            name: [module for module in drawn[name] if module not in done]
            for name in drawn if name not in done
        }


def faults_of_text(text):
    tree = ast.parse(text)
    checks = [
        top_faults, form_faults, def_faults, name_faults, call_faults, walk_faults, change_faults,
        class_faults,
    ]
    return list(sign_faults(text)) + [fault for check in checks for fault in check(tree)]


WRONG = [
    "x = 1 / 2", "x = 1.5", "x = 1\nx = 2", "x = [y for y in range(3)]", "import math", "print(1)",
    "for x in (1, 2):\n    y = x", "def f(*xs):\n    return xs", "def f(x: int):\n    return x",
    "def f(x):\n    return (y for y in x)", "def f(x):\n    return {y for y in x}",
    "def f(x):\n    return {1, 2}", "def f(x):\n    return set(x)", "def f(x):\n    yield x",
    "def f(x):\n    with x:\n        return 1", "def f(x):\n    return 2 ** x",
    "def f(x):\n    return x is f", "def f(x):\n    return f'{x:>3}'", "def f(x):\n    return '%'",
    "def f(len):\n    return 1", "def f(x):\n    return hash(x)", "def f(_x):\n    return 1",
    "def f(x):\n    y = range(x)\n    return y", "def f(x):\n    return x.items()",
    "def f(x):\n    return len(zip(x, x))", "def f(x):\n    return (y := x)",
    "def f(x):\n    return f(*x)", "def f(x):\n    return sorted(x, by=1)",
    "def f(x):\n    raise ValueError", "def f(x):\n    raise x", "class A(int, str):\n    pass",
    "class A:\n    many = 1", "class A:\n    def __eq__(self, x):\n        return True",
    "def f():\n    return ValueError", "def f(x):\n    global y", "# a type", "x = '\\x41'",
    "def f(x):\n    assert x", "def f(x):\n    while x:\n        x = 0\n    else:\n        x = 1",
    "def f(x):\n    try:\n        x = 1\n    except:\n        x = 2", "def f(x):\n    del x[0]",
    "def f(x):\n    return 1\n" + "    x = 1\n" * 40, "x = 'caf\u00e9'", "x = 1\t", "# " + "a" * 120,
    "def f(x=[y for y in (1, 2)]):\n    return x", "x = []", "x = {}", "x = ([],)",
    "def f(x=[]):\n    return x", "def f(x):\n    for y in x:\n        x.append(y)",
    "def f(x):\n    for k, y in enumerate(x):\n        x[k] = y",
    "def f(x):\n    for y in x[0]:\n        x[0].pop()", "def f(x):\n    return [x.pop() for y in x]", "def f(x):\n    return f(x)(x)", "x = 1\n" * 401,
]
WRONG_OBJECTS = [
    "class A:\n    def many(self):\n        self.many = 1",
    "class A:\n    def put(self):\n        self.items = 1",
    "class A:\n    def put(self):\n        return self.most",
    "class A:\n    def put(self, x):\n        return x.sort()",
    "class A:\n    def put(self, x):\n        return x.append",
    "class A:\n    def encode(self):\n        return 1",
]
WRONG_CALLS = [
    "def f(x):\n    return f()", "def f(x, y=1):\n    return f(1, 2, 3)",
    "class A:\n    def put(self):\n        return self.put(1)",
    "class A:\n    def put(self, x):\n        return self.put()",
]
WRONG_IMPORTS = [
    ("from lineswitch.b import x", "from lineswitch.a import y\nx = 1"),
    ("from lineswitch.b import y", "x = 1"), ("from b import x", "x = 1"),
    ("from lineswitch.c import x", "x = 1"), ("from .b import x", "x = 1"),
    ("from lineswitch.b import x as y", "x = 1"), ("from lineswitch.b import *", "x = 1"),
]


class LanguageTest(unittest.TestCase):
    def trees(self):
        return {path.stem: ast.parse(path.read_text(encoding="ascii")) for path in FILES}

    def test_the_files(self):
        names = [path.stem for path in FILES]
        modules = "errors boards alike left bounds floors worst keeper nets made texts desk"
        self.assertEqual(sorted(names), sorted(["__init__"] + modules.split()))
        for path in PACKAGE.iterdir():
            self.assertTrue(path in FILES or path.name == "__pycache__", path)
            self.assertRegex(path.stem, r"^[a-z0-9_]+$")

    def test_each_file(self):
        for path in FILES:
            self.assertEqual(faults_of_text(path.read_text(encoding="ascii")), [], path)

    def test_files_together(self):
        self.assertEqual(list(object_faults(list(self.trees().values()))), [])
        self.assertEqual(list(arity_faults(list(self.trees().values()))), [])
        self.assertEqual(list(import_faults(self.trees())), [])

    def test_what_is_wrong_is_found(self):
        for text in WRONG:
            self.assertNotEqual(faults_of_text(text), [], text)
        for text in WRONG_OBJECTS:
            self.assertEqual(faults_of_text(text), [], text)
            self.assertNotEqual(list(object_faults([ast.parse(text)])), [], text)
        for text in WRONG_CALLS:
            self.assertEqual(faults_of_text(text), [], text)
            self.assertNotEqual(list(arity_faults([ast.parse(text)])), [], text)
        for one, other in WRONG_IMPORTS:
            trees = {"a": ast.parse(one), "b": ast.parse(other)}
            self.assertNotEqual(list(import_faults(trees)), [], one)


if __name__ == "__main__":
    unittest.main()
