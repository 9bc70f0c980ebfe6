"""The package keeps the rules of the language subset, as far as its syntax tree shows them."""

import ast
import builtins
import re
import unittest
import warnings
from pathlib import Path

PACKAGE = Path(__file__).resolve().parent.parent / "hiddensorts"
FILES = sorted(PACKAGE.glob("*.py"))

BUILTINS = set(
    "len range enumerate zip min max sum abs sorted reversed int str bool list tuple dict set isinstance ord repr "
    "any all divmod pow iter next property staticmethod classmethod Exception ValueError TypeError KeyError "
    "IndexError LookupError ZeroDivisionError NotImplemented".split())
MATH = {"gcd", "lcm", "comb", "perm", "factorial", "isqrt"}
METHODS = set(
    "append clear copy count endswith extend find get index insert isalnum isalpha isdigit islower isspace isupper "
    "items join keys ljust lower lstrip partition pop remove replace reverse rfind rjust rpartition rsplit rstrip "
    "setdefault split splitlines startswith strip update upper values zfill bit_length removeprefix removesuffix "
    "isascii".split())
SPECIALS = {"__init__", "__eq__", "__len__", "__iter__", "__contains__", "__add__", "__mul__", "__call__", "__neg__"}
STATEMENTS = (
    ast.Module, ast.FunctionDef, ast.ClassDef, ast.ImportFrom, ast.Assign, ast.AugAssign, ast.If, ast.While, ast.For,
    ast.Return, ast.Break, ast.Continue, ast.Pass, ast.Raise, ast.Assert, ast.Delete, ast.Try, ast.Expr)
WORDS = (
    "type typing enum Enum Generic Protocol ABC namedtuple NamedTuple dataclass overload contextmanager register "
    "mro elements open input law").split()
LISTED = {"any", "all", "min", "max", "sum", "sorted"}


def trees():
    """Each file of the package with its text and its syntax tree, every node knowing its parent."""
    for path in FILES:
        text = path.read_text(encoding="utf-8")
        tree = ast.parse(text)
        for node in ast.walk(tree):
            for child in ast.iter_child_nodes(node):
                child.parent = node
        yield path, text, tree


def functions(tree):
    return [node for node in ast.walk(tree) if isinstance(node, ast.FunctionDef)]


def is_generator(function):
    return any(isinstance(node, (ast.Yield, ast.YieldFrom)) for node in ast.walk(function))


def bound_names(function):
    """Parameters and local names of a function, those of its comprehensions too."""
    names = [arg.arg for node in ast.walk(function) if isinstance(node, ast.arguments)
             for arg in node.posonlyargs + node.args + node.kwonlyargs + [node.vararg, node.kwarg] if arg]
    names += [node.id for node in ast.walk(function) if isinstance(node, ast.Name) and isinstance(node.ctx, ast.Store)]
    names += [node.name for node in ast.walk(function) if isinstance(node, ast.ExceptHandler) and node.name]
    return set(names)


SIGNS = {ast.Add: "__add__", ast.Sub: "__sub__", ast.Mult: "__mul__", ast.Eq: "__eq__", ast.NotEq: "__eq__",
         ast.In: "__contains__", ast.NotIn: "__contains__", ast.USub: "__neg__"}
CHANGING = {"append", "clear", "extend", "insert", "pop", "remove", "reverse", "setdefault", "sort", "update"}
FRESH = (ast.List, ast.Dict, ast.ListComp, ast.DictComp)


class Package:
    """What an operator or a property runs, as far as the names in the code tell: a method stands for each class's."""

    def __init__(self, found):
        self.named = {}
        for tree in found:
            for node in ast.walk(tree):
                if isinstance(node, ast.FunctionDef):
                    self.named.setdefault(node.name, []).append(node)
                if isinstance(node, ast.ClassDef):
                    self.named.setdefault(node.name, []).extend(
                        child for child in node.body if getattr(child, "name", "") == "__init__")

    def starts(self):
        """The operators, properties, __eq__ and __len__."""
        words = set(SIGNS.values()) | {"__len__", "__str__", "__repr__"}
        return [function for functions in self.named.values() for function in functions
                if function.name in words or is_property(function)]

    def run_by(self, starts):
        """The functions and methods that these ones run, themselves too."""
        found, waiting = [], list(starts)
        while waiting:
            function = waiting.pop()
            if function not in found:
                found.append(function)
                for word in run_words(function):
                    waiting += self.named.get(word, [])
                read = [run for word in read_words(function) for run in self.named.get(word, [])]
                waiting += [run for run in read if is_property(run)]
        return found


def is_property(function):
    return any(isinstance(mark, ast.Name) and mark.id == "property" for mark in function.decorator_list)


def run_words(function):
    """The names and methods that a function calls, those behind signs too."""
    words = called_names(function)
    words |= {node.func.attr for node in ast.walk(function)
              if isinstance(node, ast.Call) and isinstance(node.func, ast.Attribute)}
    signs = {type(node) for node in ast.walk(function)}
    return words | {SIGNS[sign] for sign in signs & set(SIGNS)} | ({"__len__"} if "len" in words else set())


def read_words(function):
    return {node.attr for node in ast.walk(function) if isinstance(node, ast.Attribute)}


def called_names(function):
    return {node.func.id for node in ast.walk(function)
            if isinstance(node, ast.Call) and isinstance(node.func, ast.Name)}


def is_fresh(value):
    """Whether an expression is a list or a dict that is made on the spot."""
    return isinstance(value, FRESH) or (isinstance(value, ast.Call) and isinstance(value.func, ast.Name)
                                        and value.func.id in ("list", "dict", "sorted"))


def changes_of(function):
    """The rows in which a function changes what it did not create itself; an __init__ sets its own attributes."""
    given = {}
    for node in ast.walk(function):
        if isinstance(node, ast.Assign):
            for target in node.targets:
                if isinstance(target, ast.Name):
                    given.setdefault(target.id, []).append(is_fresh(node.value))
    own = {name for name, values in given.items() if all(values)}
    rows = []
    for node in ast.walk(function):
        if isinstance(node, (ast.Attribute, ast.Subscript)) and isinstance(node.ctx, (ast.Store, ast.Del)):
            root = node.value.id if isinstance(node.value, ast.Name) else None
            builds = function.name == "__init__" and root == "self" and isinstance(node, ast.Attribute)
            if not builds and not (isinstance(node, ast.Subscript) and root in own):
                rows.append(node.lineno)
        if isinstance(node, ast.Call) and isinstance(node.func, ast.Attribute) and node.func.attr in CHANGING:
            if not (isinstance(node.func.value, ast.Name) and node.func.value.id in own):
                rows.append(node.lineno)
    return rows


def is_range_use(node):
    """Whether a range, or a name that keeps one, is used where it stands."""
    parent = node.parent
    if isinstance(parent, (ast.For, ast.comprehension)) and parent.iter is node:
        return True
    if isinstance(parent, ast.Subscript) and parent.value is node:
        return True
    if isinstance(parent, ast.Compare) and isinstance(parent.ops[0], (ast.In, ast.NotIn)):
        return parent.comparators == [node]
    return (isinstance(parent, ast.Call) and isinstance(parent.func, ast.Name)
            and parent.func.id in ("list", "tuple", "sorted", "sum", "min", "max", "any", "all", "enumerate", "zip",
                                   "len", "reversed"))


class LanguageTest(unittest.TestCase):

    def test_files(self):
        self.assertTrue((PACKAGE / "__init__.py").is_file())
        for path in PACKAGE.iterdir():
            if path.name != "__pycache__":
                self.assertRegex(path.name, r"\A[a-z_][a-z0-9_]*\.py\Z")
        for path, text, _ in trees():
            lines = text.split("\n")
            self.assertLessEqual(len(lines), 399, path.name)
            self.assertRegex(text, r"\A[\n -~]*\Z", path.name)
            self.assertLessEqual(max(len(line) for line in lines), 120, path.name)

    def test_no_warnings(self):
        with warnings.catch_warnings():
            warnings.simplefilter("error")
            for path, text, _ in trees():
                compile(text, str(path), "exec")

    def test_imports(self):
        defined = {path.stem: {node.name for node in tree.body if isinstance(node, (ast.FunctionDef, ast.ClassDef))}
                   | {target.id for node in tree.body if isinstance(node, ast.Assign) for target in node.targets}
                   for path, _, tree in trees()}
        used = {}
        for path, _, tree in trees():
            used[path.stem] = set()
            for node in ast.walk(tree):
                self.assertNotIsInstance(node, ast.Import)
                if not isinstance(node, ast.ImportFrom):
                    continue
                self.assertIs(node.parent, tree)
                names = {alias.name for alias in node.names}
                self.assertTrue(all(alias.asname is None for alias in node.names))
                self.assertEqual(node.level, 0)
                if node.module == "math":
                    self.assertLessEqual(names, MATH)
                    continue
                package, _, module = node.module.partition(".")
                self.assertEqual(package, "hiddensorts")
                self.assertLessEqual(names, defined[module], path.name)
                used[path.stem].add(module)
                self.assert_all_used(tree, names, path.name)
        self.assert_no_rings(used)

    def assert_all_used(self, tree, names, where):
        loaded = {node.id for node in ast.walk(tree) if isinstance(node, ast.Name)}
        self.assertLessEqual(names, loaded, where)

    def assert_no_rings(self, used):
        free = set()
        while len(free) < len(used):
            ready = {name for name in used if name not in free and used[name] <= free}
            self.assertTrue(ready, "files import from each other")
            free |= ready

    def test_module_level(self):
        for path, _, tree in trees():
            names = []
            for node in tree.body:
                self.assertIsInstance(node, (ast.Expr, ast.ImportFrom, ast.FunctionDef, ast.ClassDef, ast.Assign))
                if isinstance(node, ast.Expr):
                    self.assertIsInstance(node.value, ast.Constant)
                elif isinstance(node, ast.ImportFrom):
                    names += [alias.name for alias in node.names]
                elif isinstance(node, ast.Assign):
                    ast.literal_eval(node.value)
                    names += [target.id for target in node.targets]
                else:
                    names.append(node.name)
            self.assertEqual(len(names), len(set(names)), path.name)
            self.assertFalse(set(names) & set(dir(builtins)), path.name)

    def test_statements_and_expressions(self):
        barred = (ast.Set, ast.GeneratorExp, ast.Lambda, ast.Await, ast.NamedExpr, ast.AnnAssign, ast.Global,
                  ast.Nonlocal, ast.With, ast.Match, ast.Div, ast.MatMult)
        for path, _, tree in trees():
            for node in ast.walk(tree):
                where = f"{path.name}:{getattr(node, 'lineno', 0)}"
                self.assertNotIsInstance(node, barred, where)
                if isinstance(node, ast.stmt):
                    self.assertIsInstance(node, STATEMENTS, where)
                if isinstance(node, ast.Constant):
                    self.assertNotIsInstance(node.value, (float, complex), where)
                    self.assertFalse(isinstance(node.value, str) and "%" in node.value, where)
                if isinstance(node, ast.Compare) and any(isinstance(op, (ast.Is, ast.IsNot)) for op in node.ops):
                    self.assertIsInstance(node.comparators[0], ast.Constant, where)
                if isinstance(node, ast.Raise) and node.exc is not None:
                    self.assertIsInstance(node.exc, ast.Call, where)
                    self.assertIsInstance(node.exc.func, ast.Name, where)
                if isinstance(node, ast.ExceptHandler):
                    self.assertIsInstance(node.type, ast.Name, where)
                    self.assertNotIn(node.type.id, dir(builtins), where)
                if isinstance(node, ast.Starred):
                    self.assertIsInstance(node.value, ast.Name, where)
                if isinstance(node, ast.AugAssign):
                    self.assertIsInstance(node.target, ast.Name, where)
                    self.assertIsInstance(node.value, ast.Constant, where)
                if isinstance(node, ast.BinOp) and isinstance(node.op, ast.Pow):
                    self.assertIsInstance(node.right, (ast.Constant, ast.BinOp), where)
                if isinstance(node, ast.JoinedStr):
                    self.assertFalse([part for part in ast.walk(node) if isinstance(part, ast.Constant)
                                      and ("\n" in str(part.value) or "#" in str(part.value))], where)

    def test_names(self):
        for path, text, tree in trees():
            own = {alias.name for node in tree.body if isinstance(node, ast.ImportFrom) for alias in node.names}
            own |= {node.name for node in tree.body if isinstance(node, (ast.ClassDef, ast.FunctionDef))}
            for function in functions(tree):
                names = bound_names(function)
                where = f"{path.name}: {function.name}"
                self.assertLessEqual(function.end_lineno - function.lineno + 1, 40, where)
                self.assertFalse(names & own, where)
                self.assertFalse(names & set(dir(builtins)), where)
                self.assertFalse([name for name in names if name.startswith("__")], where)
                if function.name.startswith("__"):
                    self.assertIn(function.name, SPECIALS, where)
                self.assertTrue(all(isinstance(name, ast.Name) and name.id in BUILTINS
                                    for name in function.decorator_list), where)
                self.assertIsNotNone(ast.get_docstring(function) or function.name.startswith("__") or None, where)
            for node in ast.walk(tree):
                if isinstance(node, ast.Name) and node.id in dir(builtins):
                    self.assertIn(node.id, BUILTINS, path.name)
                if isinstance(node, (ast.ClassDef, ast.Module)):
                    self.assertTrue(ast.get_docstring(node), path.name)

    def test_words(self):
        for path, _, tree in trees():
            for node in ast.walk(tree):
                names = [getattr(node, field, None) for field in ("id", "attr", "arg", "name")]
                for name in names:
                    self.assertNotIn(name, WORDS, path.name)
                if isinstance(node, ast.Constant) and isinstance(node.value, str):
                    if not isinstance(node.parent, ast.Expr):
                        self.assertFalse(set(re.findall(r"\w+", node.value)) & set(WORDS), path.name)

    def test_calls(self):
        own = {function.name for _, _, tree in trees() for function in functions(tree)}
        yielding = {function.name for _, _, tree in trees() for function in functions(tree) if is_generator(function)}
        for path, _, tree in trees():
            for node in ast.walk(tree):
                if not isinstance(node, ast.Call):
                    continue
                where = f"{path.name}:{node.lineno}"
                if isinstance(node.func, ast.Attribute):
                    self.assertIn(node.func.attr, METHODS | own, where)
                    continue
                name = node.func.id
                if name in LISTED and len(node.args) == 1:
                    self.assertNotIsInstance(node.args[0], ast.GeneratorExp, where)
                if name == "set" or name in yielding:
                    self.assert_used_at_once(node, name, where)
                if name in ("zip", "enumerate", "reversed"):
                    self.assert_used_at_once(node, "view", where)
                if name == "range":
                    self.assert_range_stays(node, where)
                if name in BUILTINS:
                    self.assertLessEqual({word.arg for word in node.keywords}, {"start", "key", "default", "reverse"})
            for node in ast.walk(tree):
                if isinstance(node, ast.SetComp):
                    self.assert_used_at_once(node, "set", f"{path.name}:{node.lineno}")

    def assert_range_stays(self, node, where):
        """A range is used on the spot, or kept by a name that is only iterated over, measured or indexed."""
        if not isinstance(node.parent, ast.Assign):
            self.assertTrue(is_range_use(node), where)
            return
        name = node.parent.targets[0].id
        function = node
        while not isinstance(function, ast.FunctionDef):
            function = function.parent
        uses = [use for use in ast.walk(function) if isinstance(use, ast.Name) and use.id == name
                and isinstance(use.ctx, ast.Load)]
        self.assertTrue(uses and all(is_range_use(use) for use in uses), where)

    def test_the_test_of_ranges_sees_what_it_must_refuse(self):
        for text, good in (("for k in range(3):\n    pass", True), ("f(range(3))", False), ("list(range(3))", True),
                           ("[k for k in range(3)]", True), ("xs + range(3)", False), ("len(range(3))", True)):
            tree = ast.parse(text)
            for node in ast.walk(tree):
                for child in ast.iter_child_nodes(node):
                    child.parent = node
            calls = [node for node in ast.walk(tree) if isinstance(node, ast.Call)
                     and isinstance(node.func, ast.Name) and node.func.id == "range"]
            self.assertEqual([is_range_use(call) for call in calls], [good], text)

    def assert_used_at_once(self, node, kind, where):
        parent = node.parent
        called = parent.func.id if isinstance(parent, ast.Call) and isinstance(parent.func, ast.Name) else None
        if kind == "set":
            self.assertTrue(called in ("sorted", "len") or isinstance(parent, ast.Compare), where)
            return
        iterated = isinstance(parent, (ast.For, ast.comprehension)) and parent.iter is node
        self.assertTrue(iterated or called in ("list", "tuple", "dict", "zip", "enumerate")
                        or isinstance(parent, ast.YieldFrom), where)

    def test_operators_and_properties_change_nothing(self):
        package = Package([tree for _, _, tree in trees()])
        self.assertEqual({function.name for function in package.starts()} - {"__add__", "__mul__", "__contains__"},
                         {"__neg__", "__eq__", "__len__", "fair", "free", "word", "so_far"})
        run = package.run_by(package.starts())
        self.assertLess({"times", "sees", "_teller", "_comes_back", "__init__", "sizes_of"},
                        {function.name for function in run})
        for function in run:
            where = f"row {function.lineno}: {function.name}"
            self.assertFalse(is_generator(function), f"{where} yields")
            self.assertEqual(changes_of(function), [], where)
            self.assertFalse(called_names(function) & bound_names(function), where)

    def test_the_test_of_operators_sees_what_it_must_refuse(self):
        tree = ast.parse(
            "def steps(xs):\n    yield xs\n"
            "def kept(xs):\n    xs.append(1)\n    return xs\n"
            "def fresh(xs):\n    ys = list(xs)\n    ys.append(1)\n    return ys\n"
            "class Box:\n"
            "    def rows(self):\n        return [x for x in steps(self.xs)]\n"
            "    def __add__(self, other):\n        return self.rows()\n"
            "    def __mul__(self, other):\n        return kept(fresh(other))\n"
            "    def __sub__(self, other):\n        self.n = other\n        self.m[0] = 1\n        return self\n")
        for node in ast.walk(tree):
            for child in ast.iter_child_nodes(node):
                child.parent = node
        package = Package([tree])
        found = {start.name: package.run_by([start]) for start in package.starts()}
        self.assertEqual([run.name for run in found["__add__"] if is_generator(run)], ["steps"])
        self.assertEqual({run.name: len(changes_of(run)) for run in found["__mul__"]},
                         {"__mul__": 0, "kept": 1, "fresh": 0})
        self.assertEqual([len(changes_of(run)) for run in found["__sub__"]], [2])

    def test_errors_derive_from_one_base(self):
        tree = ast.parse((PACKAGE / "errors.py").read_text(encoding="utf-8"))
        bases = {node.name: [base.id for base in node.bases] for node in tree.body if isinstance(node, ast.ClassDef)}
        self.assertEqual(bases.pop("SortsError"), ["Exception"])
        self.assertEqual(set(map(tuple, bases.values())), {("SortsError",)})

    def test_methods_and_attributes_have_unlike_names(self):
        methods, attributes, plain = set(), set(), set()
        for _, _, tree in trees():
            for node in ast.walk(tree):
                if isinstance(node, ast.FunctionDef) and isinstance(node.parent, ast.ClassDef):
                    methods.add(node.name)
                    if node.decorator_list:
                        plain.add(node.name)
                if isinstance(node, ast.Attribute) and isinstance(node.ctx, ast.Store):
                    attributes.add(node.attr)
        self.assertFalse(methods & attributes)
        self.assertFalse((methods - SPECIALS) & METHODS)


if __name__ == "__main__":
    unittest.main()
