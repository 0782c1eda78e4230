"""The package keeps to the small part of Python that it is written in, as far as a reader of its trees can see."""

import ast
import pathlib
import re
import unittest

PACKAGE = pathlib.Path(__file__).resolve().parent.parent / "rerunyard"

BUILTINS = set("""len range enumerate zip min max sum abs sorted reversed int str bool list tuple dict set frozenset
    isinstance ord repr any all divmod Exception ValueError TypeError KeyError IndexError LookupError
    ZeroDivisionError ArithmeticError OverflowError RuntimeError NotImplementedError AttributeError
    StopIteration""".split())
METHODS = set("""append clear copy count endswith extend find get index insert isalnum isalpha isdigit islower isspace
    isupper items join keys ljust lower lstrip partition pop remove replace reverse rfind rjust rpartition rsplit
    rstrip setdefault split splitlines startswith strip update upper values zfill bit_length""".split())
OWN_TOO = {"add", "discard", "title"}
VALUES_TOO = set("count index find get join lower upper split strip copy".split())
NO_VALUES = set("""items keys values pop update append clear extend insert remove reverse setdefault sort args encode
    format""".split())
WALKED = set("zip enumerate reversed range .items .keys .values".split())
WALKERS = set("list tuple dict sorted sum any all enumerate zip".split())
OWN_UNDERSCORED = {"__init__", "__eq__", "__repr__", "__str__", "__len__"}
NEVER = set("register mro elements open input version_info with_traceback add_note format format_map".split())
NO_WORDS = re.compile(r"\b(type|typing|typing_extensions|enum|Enum|IntEnum|StrEnum|Flag|IntFlag|Generic|Protocol|ABC"
                      r"|ABCMeta|namedtuple|NamedTuple|TypedDict|TYPE_CHECKING|abstractmethod)\b"
                      r"|dataclass|overload|contextmanager")
STATEMENTS = (ast.Assign, ast.AugAssign, ast.If, ast.While, ast.For, ast.Return, ast.Break, ast.Continue, ast.Pass,
              ast.Raise, ast.Try, ast.Expr, ast.FunctionDef)
EXPRESSIONS = (ast.Constant, ast.List, ast.Tuple, ast.Dict, ast.Set, ast.BinOp, ast.UnaryOp, ast.BoolOp, ast.Compare,
               ast.IfExp, ast.Call, ast.Attribute, ast.Subscript, ast.Slice, ast.ListComp, ast.JoinedStr,
               ast.FormattedValue, ast.Name, ast.Lambda)


class Look:
    def __init__(self, source):
        self.source = source
        self.tree = ast.parse(source)
        self.found = []
        self.defined = self.names_of_the_top() | BUILTINS

    def say(self, rule, node):
        self.found.append((rule, getattr(node, "lineno", node)))

    def names_of_the_top(self):
        names = []
        for node in self.tree.body:
            if isinstance(node, ast.ImportFrom):
                names.extend(alias.asname or alias.name for alias in node.names)
            elif isinstance(node, (ast.FunctionDef, ast.ClassDef)):
                names.append(node.name)
            elif isinstance(node, ast.Assign):
                names.extend(target.id for target in node.targets)
        for name in set(names):
            if names.count(name) > 1:
                self.say("L15", 1)
        return set(names)

    def all_found(self):
        self.look_at_rows()
        self.look_at_the_top()
        self.look_at_locals()
        self.look_at_walks()
        for node in ast.walk(self.tree):
            if isinstance(node, ast.stmt):
                self.look_at_statement(node)
            elif isinstance(node, ast.expr):
                self.look_at_expression(node)
            if isinstance(node, (ast.FunctionDef, ast.Lambda)):
                self.look_at_def(node)
        return self.found

    def look_at_rows(self):
        rows = self.source.split("\n")
        if len(rows) > 401:
            self.say("L10", 400)
        for k, row in enumerate(rows, start=1):
            if len(row) > 120:
                self.say("L10", k)
            if any(not " " <= sign <= "~" for sign in row):
                self.say("L14", k)
            if NO_WORDS.search(row):
                self.say("L17", k)

    def look_at_the_top(self):
        for k, node in enumerate(self.tree.body):
            if isinstance(node, ast.ImportFrom):
                own = node.level == 0 and node.module.split(".")[0] == "rerunyard"
                if not own or any(alias.name == "*" for alias in node.names):
                    self.say("L2", node)
            elif isinstance(node, ast.ClassDef):
                self.look_at_class(node)
            elif isinstance(node, ast.Expr):
                if k > 0 or not isinstance(node.value, ast.Constant):
                    self.say("L3", node)
            elif not isinstance(node, (ast.FunctionDef, ast.Assign)):
                self.say("L3", node)

    def look_at_class(self, node):
        if len(node.bases) > 1 or node.keywords or node.decorator_list:
            self.say("L5", node)
        for one in node.body:
            if not isinstance(one, (ast.FunctionDef, ast.Pass)):
                self.say("L5", one)

    def look_at_statement(self, node):
        if isinstance(node, (ast.ImportFrom, ast.ClassDef)):
            if node not in self.tree.body:
                self.say("L2", node)
            return
        if not isinstance(node, STATEMENTS) or getattr(node, "finalbody", []):
            self.say("L6", node)
        if isinstance(node, (ast.While, ast.For)) and node.orelse:
            self.say("L6", node)
        if isinstance(node, ast.Assign) and len(node.targets) > 1:
            self.say("L6", node)
        if isinstance(node, ast.Expr) and not isinstance(node.value, ast.Call) and node != self.tree.body[0]:
            self.say("L6", node)
        if isinstance(node, ast.Try):
            for handler in node.handlers:
                if handler.type is None or getattr(handler.type, "id", "") in ("Exception", "TypeError"):
                    self.say("L19", handler)

    def look_at_expression(self, node):
        if not isinstance(node, EXPRESSIONS):
            self.say("L7", node)
        elif isinstance(node, ast.Constant):
            if not isinstance(node.value, (int, str, type(None))):
                self.say("L7", node)
            if isinstance(node.value, str) and "%" in node.value:
                self.say("L27", node)
        elif isinstance(node, ast.BinOp):
            if isinstance(node.op, (ast.Div, ast.MatMult)):
                self.say("L7", node)
        elif isinstance(node, ast.ListComp):
            if len(node.generators) > 1 or len(node.generators[0].ifs) > 1:
                self.say("L7", node)
        elif isinstance(node, ast.FormattedValue):
            if not isinstance(node.value, ast.Name) or node.format_spec:
                self.say("L7", node)
        elif isinstance(node, ast.Compare):
            self.look_at_is(node)
        elif isinstance(node, ast.Name):
            self.look_at_name(node.id, node)
        elif isinstance(node, ast.Attribute):
            if node.attr in NEVER or (node.attr.startswith("_") and node.attr not in OWN_UNDERSCORED):
                self.say("L17", node)
            if is_python_method(node.attr) and node.attr not in METHODS | OWN_TOO | OWN_UNDERSCORED:
                self.say("L25", node)

    def look_at_is(self, node):
        for sign, right in zip(node.ops, node.comparators):
            if isinstance(sign, (ast.Is, ast.IsNot)):
                if not isinstance(right, ast.Constant) or right.value not in (None, True, False):
                    self.say("L20", node)

    def look_at_name(self, name, node):
        if name.startswith("_") or name in NEVER:
            self.say("L12", node)
        if isinstance(node.ctx, ast.Load) and is_python_name(name) and name not in self.defined:
            self.say("L8", node)
        if isinstance(node.ctx, ast.Store) and is_python_name(name):
            self.say("L15", node)

    def look_at_def(self, node):
        args = node.args
        if args.vararg or args.kwarg or args.kwonlyargs or args.posonlyargs:
            self.say("L4", node)
        for one in args.args:
            if one.annotation or is_python_name(one.arg) or one.arg.startswith("_"):
                self.say("L15", node)
        if isinstance(node, ast.FunctionDef):
            if node.decorator_list or node.returns:
                self.say("L4", node)
            if node.end_lineno - node.lineno + 1 > 40:
                self.say("L10", node)
            if node.name.startswith("_") and node.name not in OWN_UNDERSCORED:
                self.say("L12", node)


    def look_at_locals(self):
        taken = {node.name for node in self.tree.body if isinstance(node, ast.ClassDef)}
        for node in self.tree.body:
            if isinstance(node, ast.ImportFrom):
                taken |= {alias.name for alias in node.names}
        for node in ast.walk(self.tree):
            if isinstance(node, ast.Name) and isinstance(node.ctx, ast.Store) and node.id in taken:
                self.say("L15", node)
            if isinstance(node, ast.arg) and node.arg in taken:
                self.say("L15", node)

    def look_at_walks(self):
        above = {below: node for node in ast.walk(self.tree) for below in ast.iter_child_nodes(node)}
        for node in ast.walk(self.tree):
            if isinstance(node, ast.Call) and called(node) in WALKED and not walked_at_once(node, above[node]):
                self.say("L23", node)
            if isinstance(node, ast.Call) and called(node) in ("set", "frozenset"):
                beside = isinstance(above[node], (ast.Compare, ast.BinOp))
                if not beside and called(above[node]) not in ("sorted", "len"):
                    self.say("L24", node)
            if isinstance(node, ast.Attribute) and node.attr in METHODS - VALUES_TOO:
                if not isinstance(above[node], ast.Call) or above[node].func != node:
                    self.say("L25", node)


def called(node):
    if not isinstance(node, ast.Call):
        return None
    if isinstance(node.func, ast.Name):
        return node.func.id
    return "." + node.func.attr if isinstance(node.func, ast.Attribute) else None


def walked_at_once(node, above):
    if isinstance(above, (ast.For, ast.comprehension)):
        return above.iter == node
    if called(above) in ("min", "max", ".join"):
        return len(above.args) == 1
    return called(above) in WALKERS and above.args[0] == node


def is_python_name(name):
    builtins = __builtins__ if isinstance(__builtins__, dict) else vars(__builtins__)
    return name in builtins


def is_python_method(name):
    return any(hasattr(one, name) for one in ("", 0, [], {}, (), set(), b""))


class Language(unittest.TestCase):
    def test_only_plain_files_lie_in_the_package(self):
        for path in PACKAGE.iterdir():
            if path.name != "__pycache__":
                self.assertRegex(path.name, r"^(__init__|__main__|[a-z][a-z0-9_]*)\.py$")

    def test_each_file(self):
        for path in sorted(PACKAGE.glob("*.py")):
            with self.subTest(path.name):
                self.assertEqual(Look(path.read_text(encoding="utf-8")).all_found(), [])

    def trees(self):
        return {path.stem: ast.parse(path.read_text(encoding="utf-8")) for path in sorted(PACKAGE.glob("*.py"))}

    def test_no_name_is_a_method_and_a_value(self):
        methods, values = set(), set()
        for tree in self.trees().values():
            for node in ast.walk(tree):
                if isinstance(node, ast.ClassDef):
                    names = [one.name for one in node.body if isinstance(one, ast.FunctionDef)]
                    self.assertEqual(len(names), len(set(names)))
                    methods |= set(names)
                if isinstance(node, ast.Attribute) and isinstance(node.ctx, ast.Store):
                    values.add(node.attr)
        self.assertEqual(methods & values, set())
        self.assertEqual(values & NO_VALUES, set())

    def test_names_are_drawn_from_the_file_that_defines_them_and_no_files_from_one_another(self):
        trees = self.trees()
        drawn = {name: [node for node in tree.body if isinstance(node, ast.ImportFrom)]
                 for name, tree in trees.items()}
        for name, nodes in drawn.items():
            for node in nodes:
                tops = [getattr(one, "name", None) or one.targets[0].id for one in trees[node.module.split(".")[1]].body
                        if isinstance(one, (ast.FunctionDef, ast.ClassDef, ast.Assign))]
                for alias in node.names:
                    self.assertIn(alias.name, tops, name)
        left = {name: {node.module.split(".")[1] for node in nodes} for name, nodes in drawn.items()}
        while left:
            free = [name for name in left if not left[name] & set(left)]
            self.assertNotEqual(free, [], left)
            left = {name: below for name, below in left.items() if name not in free}

    def test_the_look_finds_what_is_outside(self):
        for rule, source in [("L3", "import os"), ("L2", "from os import path"), ("L3", "if 1:\n    pass"),
                             ("L4", "def f(*xs):\n    return xs"), ("L5", "class A:\n    x = 1"),
                             ("L6", "def f(x):\n    assert x"), ("L6", "def f(x):\n    a = b = x\n    return a"),
                             ("L7", "def f(x):\n    return x / 2"), ("L7", "def f(x):\n    return all(y for y in x)"),
                             ("L8", "def f(x):\n    return hash(x)"), ("L10", "x = 1" + " " * 120),
                             ("L12", "def f(x):\n    _a = x\n    return _a"), ("L15", "def f(x):\n    min = x"),
                             ("L17", "# a type"), ("L20", "def f(x, y):\n    return x is y"),
                             ("L15", "class A:\n    pass\ndef f(A):\n    return A"),
                             ("L23", "def f(x):\n    y = zip(x, x)\n    return list(y)"),
                             ("L23", "def f(x):\n    return zip(list(x), x.items())"),
                             ("L24", "def f(x):\n    return list(set(x))"), ("L25", "def f(x):\n    return x.append"),
                             ("L25", "def f(x):\n    x.sort()"), ("L27", "x = '%'")]:
            with self.subTest(source):
                self.assertIn(rule, [found for found, line in Look(source).all_found()])


if __name__ == "__main__":
    unittest.main()
