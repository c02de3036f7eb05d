"""Holds the package to the part of Python that it keeps to, as far as its rows can be read by a program."""

import ast
import builtins
import os
import re
import unittest

PACKAGE = os.path.join(os.path.dirname(os.path.dirname(os.path.abspath(__file__))), "ringbase")

# The order of the document: each module uses those above it alone.
ORDER = ["errors", "webs", "evens", "rings", "cuts", "oddways", "oddrings", "bases", "judge", "allrings", "kinds",
         "heights", "tables", "forests", "standing", "texts", "answers"]

OWN_NAMES = set("""len range enumerate zip min max sum abs sorted reversed int str bool list tuple dict set frozenset
    isinstance ord repr any all divmod Exception ValueError TypeError KeyError IndexError LookupError
    ZeroDivisionError ArithmeticError OverflowError RuntimeError NotImplementedError AttributeError
    StopIteration""".split())

METHODS = set("""append clear copy count endswith extend find get index insert isalnum isalpha isdigit islower isspace
    isupper items join keys ljust lower lstrip partition pop remove replace reverse rfind rjust rpartition rsplit rstrip
    setdefault split splitlines startswith strip update upper values zfill bit_length __init__""".split())

WORDS = re.compile(r"\b(type|typing|typing_extensions|enum|Enum|IntEnum|StrEnum|Flag|IntFlag|Generic|Protocol|ABC|ABCMeta|"
                   r"namedtuple|NamedTuple|TypedDict|TYPE_CHECKING|abstractmethod)\b|dataclass|overload|contextmanager")

DUNDERS = ("__init__", "__eq__", "__repr__", "__str__", "__len__")

NODES = (ast.Module, ast.ImportFrom, ast.alias, ast.FunctionDef, ast.arguments, ast.arg, ast.ClassDef, ast.Lambda,
         ast.Assign, ast.AugAssign, ast.If, ast.While, ast.For, ast.Return, ast.Break, ast.Continue, ast.Pass,
         ast.Raise, ast.Try, ast.ExceptHandler, ast.Expr, ast.Constant, ast.List, ast.Tuple, ast.Dict, ast.Set,
         ast.BinOp, ast.UnaryOp, ast.BoolOp, ast.Compare, ast.IfExp, ast.Call, ast.keyword, ast.Attribute,
         ast.Subscript, ast.Slice, ast.ListComp, ast.comprehension, ast.JoinedStr, ast.FormattedValue, ast.Name,
         ast.expr_context, ast.operator, ast.unaryop, ast.boolop, ast.cmpop)


def plain_value(node):
    if isinstance(node, (ast.List, ast.Tuple)):
        return all(plain_value(part) for part in node.elts)
    if isinstance(node, ast.Dict):
        return all(plain_value(part) for part in node.keys + node.values)
    if isinstance(node, ast.UnaryOp):
        return isinstance(node.op, ast.USub) and plain_value(node.operand)
    return isinstance(node, (ast.Constant, ast.Name))


def bound_names(tree):
    for node in ast.walk(tree):
        if isinstance(node, ast.Name) and isinstance(node.ctx, ast.Store):
            yield node.id
        elif isinstance(node, ast.arg):
            yield node.arg
        elif isinstance(node, (ast.FunctionDef, ast.ClassDef)):
            yield node.name
        elif isinstance(node, ast.alias):
            yield node.asname or node.name
        elif isinstance(node, ast.ExceptHandler) and node.name:
            yield node.name


def node_fault(node):
    """What is wrong with a single node, or None."""
    if not isinstance(node, NODES) or isinstance(node, (ast.Div, ast.MatMult)):
        return "L6, L7: outside the language"
    if isinstance(node, ast.Constant) and not isinstance(node.value, (int, str, type(None))):
        return "L7: a value of another kind"
    if isinstance(node, ast.Constant) and isinstance(node.value, str) and "%" in node.value:
        return "L27: a sign in a text"
    if isinstance(node, (ast.FunctionDef, ast.ClassDef)) and node.decorator_list:
        return "L4, L5: a decorator"
    if isinstance(node, ast.FunctionDef) and node.end_lineno - node.lineno >= 40:
        return "L10: a long function"
    if isinstance(node, ast.arguments) and (node.vararg or node.kwarg or node.kwonlyargs or node.posonlyargs):
        return "L4: not a plain parameter"
    if isinstance(node, ast.ClassDef) and (len(node.bases) > 1 or node.keywords):
        return "L5: more than a base"
    if isinstance(node, ast.Assign) and len(node.targets) > 1:
        return "L6: several targets"
    if isinstance(node, ast.Expr) and not isinstance(node.value, (ast.Call, ast.Constant)):
        return "L6: a value by itself"
    if isinstance(node, (ast.For, ast.While)) and node.orelse or isinstance(node, ast.Try) and node.finalbody:
        return "L6: else behind a loop, or finally"
    if isinstance(node, ast.ListComp) and (len(node.generators) > 1 or len(node.generators[0].ifs) > 1):
        return "L7: a list of too many parts"
    if isinstance(node, (ast.BinOp, ast.AugAssign)) and isinstance(node.op, ast.Pow):
        exponent = node.right if isinstance(node, ast.BinOp) else node.value
        if not isinstance(exponent, ast.Constant) or not 0 <= exponent.value <= 64:
            return "L27: an exponent that is not written"
    if isinstance(node, ast.Compare) and any(isinstance(op, (ast.Is, ast.IsNot)) for op in node.ops):
        sides = [node.left] + node.comparators
        if not any(isinstance(side, ast.Constant) and side.value in (None, True, False) for side in sides):
            return "L20: is"
    return None


def name_faults(tree, own_methods):
    bound = list(bound_names(tree))
    for name in bound:
        if name.startswith("_") and name not in DUNDERS or not name.isascii():
            yield "L12: " + name
        if hasattr(builtins, name) and name not in DUNDERS:
            yield "L15: bound like a name of Python's own: " + name
    for node in ast.walk(tree):
        if isinstance(node, ast.Name) and node.id not in bound and node.id not in OWN_NAMES:
            yield "L8: " + node.id
        if isinstance(node, ast.Call) and isinstance(node.func, ast.Attribute):
            if node.func.attr not in METHODS and node.func.attr not in own_methods:
                yield "L25: " + node.func.attr


WALKED = ("zip", "enumerate", "reversed", "range", "items", "keys", "values")
WALKERS = ("list", "tuple", "dict", "sorted", "sum", "any", "all", "enumerate", "zip")
KEYWORDS = {"sorted": ("key", "reverse"), "min": ("key", "default"), "max": ("key", "default"), "sum": ("start",),
            "enumerate": ("start",), "zip": ("strict",)}


def called(node):
    """What a call calls: a name, or the name of a method; None for other things."""
    if not isinstance(node, ast.Call):
        return None
    return getattr(node.func, "id", getattr(node.func, "attr", None))


def walked_on_the_spot(node, above):
    if isinstance(above, (ast.For, ast.comprehension)):
        return above.iter is node
    if called(above) in ("min", "max", "join"):
        return len(above.args) == 1
    return called(above) in WALKERS and node in above.args


def call_faults(tree):
    own = list(bound_names(tree))
    for above in ast.walk(tree):
        for node in ast.iter_child_nodes(above):
            name = called(node)
            if name in WALKED and not walked_on_the_spot(node, above):
                yield "L23: kept, not walked: " + ast.unparse(node)
            if name in ("set", "frozenset") or isinstance(node, ast.Set):
                yield "L24: a set: " + ast.unparse(node)
            if isinstance(node, ast.Call) and isinstance(node.func, ast.Name) and name not in own:
                for keyword in node.keywords:
                    if keyword.arg not in KEYWORDS.get(name, ()):
                        yield f"L22: {keyword.arg} at {name}"
            if isinstance(node, ast.Name) and node.id in OWN_NAMES and node.id not in own and name is None:
                if not (isinstance(above, (ast.ClassDef, ast.ExceptHandler)) or node is getattr(above, "func", None)
                        or called(above) == "isinstance" or isinstance(above, ast.keyword)):
                    yield "L22: kept as a value: " + node.id


def handler_faults(tree):
    drawn = [name.name for row in tree.body if isinstance(row, ast.ImportFrom) for name in row.names]
    for node in ast.walk(tree):
        if isinstance(node, ast.ExceptHandler):
            if not isinstance(node.type, ast.Name) or node.type.id not in drawn + ["KeyError", "ZeroDivisionError"]:
                yield "L19: " + ast.unparse(node)
        if isinstance(node, ast.Raise) and not isinstance(node.exc, ast.Call):
            yield "L19: " + ast.unparse(node)
        if isinstance(node, ast.Assign) and not isinstance(node.targets[0], (ast.Name, ast.Attribute, ast.Subscript)):
            yield "L6: several names in an assignment: " + ast.unparse(node)


UNUSED_VALUES = set(dir(str) + dir(int) + dir(list) + dir(dict) + dir(set) + dir(bytes) + ["args"])


def class_faults(trees):
    """L18 and L26, which look at all classes of the package at once."""
    methods, values = set(), set()
    for tree in trees:
        for row in tree.body:
            if isinstance(row, ast.ClassDef):
                methods |= {part.name for part in row.body if isinstance(part, ast.FunctionDef)} - set(DUNDERS)
                values |= {node.attr for node in ast.walk(row)
                           if isinstance(node, ast.Attribute) and isinstance(node.ctx, ast.Store)}
                for part in row.body:
                    if not isinstance(part, (ast.FunctionDef, ast.Expr, ast.Pass)):
                        yield "L5: a value in the class body: " + ast.unparse(part)
    for name in sorted(methods & values):
        yield "L18: a method and a value: " + name
    for name in sorted((methods | values) & UNUSED_VALUES):
        yield "L26: " + name


def local_faults(tree):
    taken = [name.name for row in tree.body if isinstance(row, ast.ImportFrom) for name in row.names]
    taken += [row.name for row in tree.body if isinstance(row, ast.ClassDef)]
    for function in ast.walk(tree):
        if isinstance(function, ast.FunctionDef):
            inner = [name for part in function.body + [function.args] for name in bound_names(part)]
            for name in sorted(set(inner) & set(taken)):
                yield "L15: called like an import or a class: " + name


def top_faults(tree, module):
    names = []
    for place, row in enumerate(tree.body):
        if isinstance(row, ast.ImportFrom):
            package, _, drawn = (row.module or "").partition(".")
            if package != "ringbase" or row.level or any(name.asname or name.name == "*" for name in row.names):
                yield "L2: " + ast.unparse(row)
            elif module in ORDER and drawn not in ORDER[:ORDER.index(module)]:
                yield "the order of modules: " + ast.unparse(row)
        elif isinstance(row, (ast.FunctionDef, ast.ClassDef)):
            names.append(row.name)
        elif isinstance(row, ast.Assign) and isinstance(row.targets[0], ast.Name) and plain_value(row.value):
            names.append(row.targets[0].id)
        elif place or not isinstance(row, ast.Expr) or not isinstance(row.value, ast.Constant):
            yield "L3: " + ast.unparse(row)
    if len(names) != len(set(names)):
        yield "L15: a name bound twice"


def text_faults(text):
    rows = text.split("\n")
    if len(rows) > 401:
        yield "L10: a long file"
    for number, row in enumerate(rows, start=1):
        if len(row) > 120:
            yield f"L10: row {number} is long"
        if not re.fullmatch("[ -~]*", row):
            yield f"L14: a sign in row {number}"
        if WORDS.search(row):
            yield f"L17: a word in row {number}"


def faults(text, module="webs", own_methods=()):
    tree = ast.parse(text)
    found = list(text_faults(text)) + list(top_faults(tree, module))
    found += list(name_faults(tree, own_methods)) + list(local_faults(tree))
    found += list(call_faults(tree)) + list(handler_faults(tree))
    for node in ast.walk(tree):
        if node_fault(node):
            found.append(f"{node_fault(node)} in row {getattr(node, 'lineno', 0)}")
    return found


def package_files():
    return sorted(name for name in os.listdir(PACKAGE) if name != "__pycache__")


def text_of(name):
    with open(os.path.join(PACKAGE, name), encoding="utf-8", newline="") as file:
        return file.read()


class Language(unittest.TestCase):
    def test_files(self):
        self.assertIn("__init__.py", package_files())
        for name in package_files():
            self.assertRegex(name, r"^([a-z][a-z0-9_]*|__init__|__main__)\.py$")

    def test_each_file_keeps_to_the_language(self):
        texts = {name: text_of(name) for name in package_files()}
        methods = {part.name for text in texts.values() for row in ast.parse(text).body
                   if isinstance(row, ast.ClassDef) for part in row.body if isinstance(part, ast.FunctionDef)}
        for name, text in texts.items():
            with self.subTest(name):
                self.assertEqual(faults(text, name[:-3], methods), [])

    def test_the_classes_of_the_package(self):
        self.assertEqual(list(class_faults([ast.parse(text_of(name)) for name in package_files()])), [])
        twice = "class A:\n    def put(self):\n        pass\nclass B:\n    def f(self):\n        self.put = 1"
        for text in (twice, "class A:\n    x = 1", "class A:\n    def f(self):\n        self.keys = 1"):
            self.assertNotEqual(list(class_faults([ast.parse(text)])), [])

    def test_the_reading_itself_finds_faults(self):
        wrong = ["import os", "from ringbase.evens import chords", "from ringbase.errors import *", "A = 10 ** 30",
                 "A = 1\nA = 2", "A = 0.5", "def f(*xs):\n    pass", "def f(n):\n    return 2 ** n",
                 "def f(set):\n    return 1", "def f(x):\n    return hash(x)", "def f(x):\n    x.sort()",
                 "def f(x):\n    return x / 2", "def f(x):\n    assert x", "def f(_x):\n    return 1",
                 "def f(x):\n    return x is 3", "def f(x):\n    a = b = x", "# the type of it", "# \t",
                 "def f(x):\n    return {y for y in x}", "def f(x):\n    return sum(y for y in x)",
                 "from ringbase.errors import BadSet\ndef f(BadSet):\n    pass", "A = 'a%'", "# " + "x" * 120,
                 "def f(x):\n    y = zip(x, x)", "def f(x):\n    return x.items()", "def f(x):\n    return set(x)",
                 "def f(x):\n    return len(obj=x)", "def f(x):\n    y = len", "def f(x):\n    y, z = x",
                 "def f(x):\n    try:\n        x()\n    except ValueError:\n        pass",
                 "def f(x):\n    raise ValueError"]
        for text in wrong:
            with self.subTest(text):
                self.assertNotEqual(faults(text), [])


if __name__ == "__main__":
    unittest.main()
