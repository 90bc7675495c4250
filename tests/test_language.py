"""The files of the package keep to the subset of Python of LANGUAGE.md, as far as these checks see it."""

import ast
import builtins
import keyword
import pathlib
import re
import unittest

PACKAGE = pathlib.Path(__file__).resolve().parent.parent / "hoproads"

LIBRARY = {
    "heapq": {"heappush", "heappop", "heapify", "heapreplace", "heappushpop"},
    "math": {"gcd", "lcm", "isqrt", "comb", "perm", "factorial"},
    "itertools": {"product", "combinations", "permutations"},
}
BUILTINS = set("""
    len range enumerate zip min max sum abs sorted reversed int str bool bytes list tuple dict set isinstance ord repr
    any all divmod iter next map super property staticmethod classmethod NotImplemented Exception ValueError TypeError
    KeyError IndexError LookupError ZeroDivisionError ArithmeticError OverflowError RuntimeError NotImplementedError
    AttributeError StopIteration
""".split())
METHODS = set("""
    append clear copy count endswith extend find get index insert isalnum isalpha isdigit islower isspace isupper items
    join keys ljust lower lstrip partition pop remove replace reverse rfind rjust rpartition rsplit rstrip setdefault
    split splitlines startswith strip update upper values zfill bit_length isascii isdecimal removeprefix removesuffix
""".split())
DUNDERS = set("""
    __init__ __eq__ __repr__ __str__ __len__ __enter__ __exit__ __call__ __iter__ __bool__ __contains__ __getitem__
    __setitem__ __lt__ __le__ __gt__ __ge__ __ne__ __neg__ __pos__ __invert__ __abs__
""".split()) | {f"__{way}{sign}__" for way in ("", "r", "i") for sign in (
    "add", "sub", "mul", "floordiv", "mod", "pow", "and", "or", "xor", "lshift", "rshift")}
BARRED_NAMES = set("""
    register mro elements open input law version_info with_traceback add_note attrgetter breakpoint builtins compile
    copyright credits delattr dir eval exec exit gc getattr globals hasattr help id importlib license locals
    methodcaller os quit setattr type vars sys
""".split())
BARRED_WORDS = re.compile(r"\b(type|typing|typing_extensions|enum|Enum|IntEnum|StrEnum|Flag|IntFlag|Generic|Protocol|ABC"
                          r"|ABCMeta|namedtuple|NamedTuple|TypedDict|TYPE_CHECKING|abstractmethod)\b"
                          r"|dataclass|overload|contextmanager|_wall|_WallAttr")
STATEMENTS = (ast.Assign, ast.If, ast.While, ast.For, ast.Return, ast.Break, ast.Continue, ast.Pass, ast.Raise, ast.Assert,
              ast.Delete, ast.Nonlocal, ast.Match, ast.With, ast.Try, ast.Expr, ast.FunctionDef, ast.ClassDef,
              ast.ImportFrom)


def files():
    return sorted(path for path in PACKAGE.rglob("*") if "__pycache__" not in path.parts)


def trees():
    return {path.stem: ast.parse(path.read_text(encoding="utf-8")) for path in files() if path.suffix == ".py"}


def docstrings(tree):
    found = set()
    for node in ast.walk(tree):
        if isinstance(node, (ast.Module, ast.FunctionDef, ast.ClassDef)) and ast.get_docstring(node) is not None:
            found.add(id(node.body[0].value))
    return found


def functions(tree):
    return [node for node in ast.walk(tree) if isinstance(node, ast.FunctionDef)]


def parameters(function):
    told = function.args
    named = told.posonlyargs + told.args + told.kwonlyargs + [some for some in (told.vararg, told.kwarg) if some]
    return [argument.arg for argument in named]


def stored(tree):
    """All names that are bound in a tree but by imports."""
    found = [node.id for node in ast.walk(tree) if isinstance(node, ast.Name) and not isinstance(node.ctx, ast.Load)]
    for node in ast.walk(tree):
        if isinstance(node, (ast.FunctionDef, ast.ClassDef)):
            found.append(node.name)
        if isinstance(node, (ast.FunctionDef, ast.Lambda)):
            found.extend(parameters(node))
        if isinstance(node, ast.ExceptHandler) and node.name:
            found.append(node.name)
    return found


def imported(tree):
    return [name.name for node in tree.body if isinstance(node, ast.ImportFrom) for name in node.names]


def defined(tree):
    names = [node.name for node in tree.body if isinstance(node, (ast.FunctionDef, ast.ClassDef))]
    return names + [target.id for node in tree.body if isinstance(node, ast.Assign) for target in node.targets]


def is_plain_number(node):
    """Whether an expression is plainly a number, which objects that compare by signs are not."""
    if isinstance(node, ast.Constant):
        return isinstance(node.value, int)
    if isinstance(node, ast.Call):
        return isinstance(node.func, ast.Name) and node.func.id in ("int", "len")
    if isinstance(node, ast.BinOp):
        return is_plain_number(node.left) and is_plain_number(node.right)
    return False


def rows_of(function):
    """The statements of a function behind its docstring."""
    return function.body[1:]


def own_lists(function):
    """The names that a function assigns nothing but new lists."""
    made = {}
    for node in ast.walk(function):
        if isinstance(node, ast.Assign):
            for target in node.targets:
                if isinstance(target, ast.Name):
                    called = isinstance(node.value, ast.Call) and isinstance(node.value.func, ast.Name)
                    new = isinstance(node.value, (ast.List, ast.ListComp)) or called and node.value.func.id == "list"
                    made[target.id] = made.get(target.id, True) and new
    return {name for name, new in made.items() if new}


class Language(unittest.TestCase):
    def test_files(self):
        self.assertLessEqual(len(files()), 100)
        for path in files():
            self.assertEqual(path.parent, PACKAGE)
            self.assertRegex(path.name, r"^[a-z_][a-z0-9_]*\.py$")
            text = path.read_text(encoding="ascii")
            self.assertNotRegex(text, r"[^ -~\n]")
            lines = text.splitlines()
            self.assertLessEqual(len(lines), 399, path.name)
            self.assertLessEqual(max(len(line) for line in lines), 120, path.name)
            self.assertTrue(text.endswith("\n") and not text.endswith("\n\n"), path.name)

    def test_imports(self):
        loaded = trees()
        asked = {}
        for name, tree in loaded.items():
            asked[name] = set()
            heads = [node for node in tree.body if isinstance(node, ast.ImportFrom)]
            self.assertEqual(heads, [node for node in ast.walk(tree) if isinstance(node, (ast.Import, ast.ImportFrom))])
            for node in heads:
                self.assertEqual(node.level, 0)
                self.assertTrue(all(some.asname is None for some in node.names))
                names = {some.name for some in node.names}
                if node.module in LIBRARY:
                    self.assertLessEqual(names, LIBRARY[node.module])
                else:
                    package, _, module = node.module.partition(".")
                    self.assertEqual(package, "hoproads")
                    self.assertLessEqual(names, set(defined(loaded[module])), (name, module))
                    asked[name].add(module)
        # leave out files that import from none that is left, until none is left: there is no round of imports
        while asked:
            done = [name for name, others in asked.items() if not others & set(asked)]
            self.assertTrue(done, asked)
            asked = {name: others for name, others in asked.items() if name not in done}

    def test_every_import_is_used(self):
        for name, tree in trees().items():
            read = {node.id for node in ast.walk(tree) if isinstance(node, ast.Name)}
            self.assertLessEqual(set(imported(tree)), read, name)

    def test_statements(self):
        for name, tree in trees().items():
            for node in tree.body:
                self.assertIsInstance(node, (ast.Expr, ast.ImportFrom, ast.FunctionDef, ast.ClassDef, ast.Assign), name)
            for node in ast.walk(tree):
                if isinstance(node, ast.stmt):
                    # no += at all, so that operators and properties may call every function
                    self.assertIsInstance(node, STATEMENTS, (name, node.lineno))
                if isinstance(node, ast.Try):
                    for handler in node.handlers:
                        self.assertIsInstance(handler.type, ast.Name, (name, handler.lineno))
                if isinstance(node, ast.Raise) and node.exc is not None:
                    self.assertIsInstance(node.exc, ast.Call, (name, node.lineno))
                self.assertNotIsInstance(node, (ast.Set, ast.SetComp, ast.Await, ast.AsyncFor, ast.GeneratorExp), name)
                if isinstance(node, (ast.FunctionDef, ast.ClassDef)):
                    self.assertEqual([some for some in node.decorator_list if not isinstance(some, (ast.Name, ast.Attribute))],
                                     [])

    def test_functions(self):
        for name, tree in trees().items():
            for function in functions(tree):
                self.assertLessEqual(function.end_lineno - function.lineno + 1, 40, (name, function.name))
                self.assertIsNotNone(ast.get_docstring(function), (name, function.name))
                self.assertIsNone(function.returns)
                if function.name.startswith("__"):
                    self.assertIn(function.name, DUNDERS)

    def test_names(self):
        for name, tree in trees().items():
            barred = set(dir(builtins)) | BARRED_NAMES
            outer = set(imported(tree)) | {node.name for node in tree.body if isinstance(node, ast.ClassDef)}
            at_top = imported(tree) + defined(tree)
            self.assertEqual(len(at_top), len(set(at_top)), name)
            for some in stored(tree):
                self.assertRegex(some, r"^(_|_?[A-Za-z][A-Za-z0-9_]*|__[a-z]+__)$")
                self.assertFalse(keyword.issoftkeyword(some) and some != "_", (name, some))
                self.assertNotIn(some, barred, name)
            for function in functions(tree):
                inside = {node.id for node in ast.walk(function)
                          if isinstance(node, ast.Name) and not isinstance(node.ctx, ast.Load)}
                self.assertEqual((inside | set(parameters(function))) & outer, set(), (name, function.name))
            known = set(stored(tree)) | set(imported(tree)) | BUILTINS
            for node in ast.walk(tree):
                if isinstance(node, ast.Name):
                    self.assertIn(node.id, known, name)

    def test_methods(self):
        loaded = trees()
        own = {function.name for tree in loaded.values() for node in ast.walk(tree) if isinstance(node, ast.ClassDef)
               for function in functions(node)}
        for name, tree in loaded.items():
            for node in ast.walk(tree):
                if isinstance(node, ast.Call) and isinstance(node.func, ast.Attribute):
                    self.assertIn(node.func.attr, METHODS | own, (name, node.lineno))

    def test_values(self):
        for name, tree in trees().items():
            told = docstrings(tree)
            for node in ast.walk(tree):
                if isinstance(node, ast.Constant):
                    self.assertNotIsInstance(node.value, (float, complex), name)
                    if isinstance(node.value, str) and id(node) not in told:
                        self.assertNotIn("%", node.value, name)
                        self.assertIsNone(BARRED_WORDS.search(node.value), (name, node.value))
                if isinstance(node, ast.BinOp):
                    self.assertNotIsInstance(node.op, (ast.Div, ast.MatMult), (name, node.lineno))
                    if isinstance(node.op, ast.Pow):
                        self.assertIsInstance(node.right, ast.Constant, (name, node.lineno))
                        self.assertIn(node.right.value, range(65), (name, node.lineno))
                if isinstance(node, ast.Compare):
                    for sign, other in zip(node.ops, node.comparators):
                        if isinstance(sign, (ast.Is, ast.IsNot)):
                            self.assertIsInstance(other, ast.Constant, (name, node.lineno))
                if isinstance(node, ast.Name):
                    self.assertIsNone(BARRED_WORDS.search(node.id), (name, node.id))

    def test_stars_in_calls(self):
        for name, tree in trees().items():
            for node in ast.walk(tree):
                if isinstance(node, ast.Call):
                    for some in node.args:
                        if isinstance(some, ast.Starred):
                            self.assertIsInstance(some.value, (ast.Name, ast.Attribute, ast.List, ast.Tuple),
                                                  (name, node.lineno))

    def test_every_name_of_a_file_is_used(self):
        loaded = trees()
        asked = {some for tree in loaded.values() for some in imported(tree)}
        for name, tree in loaded.items():
            read = {node.id for node in ast.walk(tree) if isinstance(node, ast.Name) and isinstance(node.ctx, ast.Load)}
            own = {target.id for node in tree.body if isinstance(node, ast.Assign) for target in node.targets}
            self.assertLessEqual(own, read | asked, name)

    def test_calls_of_builtins(self):
        for name, tree in trees().items():
            for node in ast.walk(tree):
                if isinstance(node, ast.Call) and isinstance(node.func, ast.Name):
                    # the order of objects that a later class can compare by signs must not be asked of these
                    self.assertNotIn(node.func.id, ("sorted", "set", "reversed", "map", "bytes"), (name, node.lineno))
                    if node.func.id in ("min", "max"):
                        first = node.args[0]
                        if len(node.args) == 1:
                            self.assertIsInstance(first, ast.ListComp, (name, node.lineno))
                            self.assertTrue(is_plain_number(first.elt), (name, node.lineno))
                        else:
                            self.assertTrue(any(is_plain_number(some) for some in node.args), (name, node.lineno))

    def test_underscores_are_not_read(self):
        for name, tree in trees().items():
            for node in ast.walk(tree):
                if isinstance(node, ast.Name) and node.id == "_":
                    self.assertIsInstance(node.ctx, ast.Store, (name, node.lineno))


class Classes(unittest.TestCase):
    def classes(self):
        """The list of all pairs of a file and of a class that is no error."""
        return [(name, node) for name, tree in trees().items() for node in tree.body
                if isinstance(node, ast.ClassDef) and name != "errors"]

    def test_there_are_two(self):
        self.assertEqual(sorted(node.name for _, node in self.classes()), ["Bench", "Road"])

    def test_bodies(self):
        for name, some in self.classes():
            self.assertEqual(some.decorator_list + some.bases + some.keywords, [])
            for node in some.body[1:]:
                self.assertIsInstance(node, (ast.FunctionDef, ast.Assign), (name, node.lineno))
                if isinstance(node, ast.Assign):
                    self.assertIsInstance(node.value, ast.Constant)
            attributes = {node.attr for node in ast.walk(some) if isinstance(node, ast.Attribute)
                          and isinstance(node.ctx, ast.Store)}
            self.assertEqual(attributes & {function.name for function in functions(some)}, set())

    def test_double_underscore_methods(self):
        for name, some in self.classes():
            methods = {function.name: function for function in functions(some)}
            self.assertIn("__iter__", methods)
            for row in rows_of(methods["__iter__"]):
                self.assertIsInstance(row, ast.Raise)
            told = {"__len__": "len(", "__bool__": "bool(", "__str__": "str(", "__eq__": f"isinstance(other, {some.name}) and "}
            for method, start in told.items():
                if method in methods:
                    rows = rows_of(methods[method])
                    self.assertEqual([type(row) for row in rows], [ast.Return])
                    text = ast.unparse(rows[0].value)
                    self.assertTrue(text.startswith(start) or method == "__bool__" and " in " in text, text)

    def test_what_stands_in_a_finally(self):
        for name, tree in trees().items():
            for node in ast.walk(tree):
                if isinstance(node, ast.Try):
                    self.assertEqual((node.handlers, node.orelse), ([], []), (name, node.lineno))
                    for row in node.finalbody:
                        self.assertIsInstance(row, ast.Assign)
                        self.assertIsInstance(row.value, ast.Name)

    def test_operators_and_properties_change_nothing(self):
        loaded = trees()
        known = {node.name: node for tree in loaded.values() for node in tree.body if isinstance(node, ast.FunctionDef)}
        free = ("__init__", "__iadd__", "__call__")
        asked = [function for _, some in self.classes() for function in functions(some)
                 if function.decorator_list and function.decorator_list[0].id == "property"
                 or function.name.startswith("__") and function.name not in free]
        seen = []
        while asked:
            function = asked.pop()
            seen.append(function.name)
            lists = own_lists(function)
            for node in ast.walk(function):
                if isinstance(node, (ast.Attribute, ast.Subscript)) and not isinstance(node.ctx, ast.Load):
                    self.assertIsInstance(node, ast.Subscript, (function.name, node.lineno))
                    self.assertIn(node.value.id, lists, (function.name, node.lineno))
                if isinstance(node, ast.Call):
                    called = node.func
                    if isinstance(called, ast.Name):
                        self.assertNotIn(called.id, parameters(function), (function.name, node.lineno))
                        if called.id in known and called.id not in seen:
                            asked.append(known[called.id])
                    elif called.attr in ("append", "extend", "insert", "pop", "remove", "clear", "update", "setdefault", "reverse"):
                        self.assertIn(called.value.id, lists, (function.name, node.lineno))
        # what these run is not just the methods themselves
        self.assertLessEqual({"hopped", "hops_of", "rate_away", "total_of", "text_of_road", "seen_in"}, set(seen))


if __name__ == "__main__":
    unittest.main()
