"""The rules of LANGUAGE.md that a simple reading of the package's files can see."""

import ast
import builtins
import io
import pathlib
import tokenize
import unittest

PACKAGE = pathlib.Path(__file__).resolve().parent.parent / "turnweights"
BUILTINS = set("""len range enumerate zip min max sum abs sorted reversed int str bool bytes list tuple dict set
    isinstance ord repr any all divmod pow map iter next type super getattr hasattr setattr staticmethod classmethod
    property object Exception ValueError TypeError KeyError IndexError LookupError ZeroDivisionError ArithmeticError
    OverflowError RuntimeError NotImplementedError AttributeError StopIteration NotImplemented""".split())
OTHER_BUILTINS = set(dir(builtins)) - BUILTINS
LIBRARY = {
    "heapq": {"heappush", "heappop", "heapify", "heapreplace", "heappushpop"},
    "math": {"gcd", "lcm", "isqrt", "comb", "perm", "factorial"},
    "itertools": {"product", "combinations", "permutations", "chain", "accumulate", "pairwise", "islice",
                  "zip_longest"},
    "collections": {"defaultdict", "deque"},
}
METHODS = {"__init__", "__eq__", "__repr__", "__str__", "__len__", "__enter__", "__exit__", "__call__", "__iter__"}
MODIFYING = {"append", "clear", "extend", "insert", "pop", "remove", "reverse", "setdefault", "update"}
UNUSED = set("""register mro elements open input law version_info with_traceback add_note typing
    typing_extensions enum Enum IntEnum StrEnum Flag IntFlag Generic Protocol ABC ABCMeta namedtuple NamedTuple
    TypedDict TYPE_CHECKING abstractmethod eval exec compile globals locals vars dir id help exit quit frozenset
    """.split())
BARRED = (ast.AsyncFunctionDef, ast.AsyncFor, ast.AsyncWith, ast.Await, ast.Div, ast.MatMult, ast.AnnAssign)


def named_files():
    return [(path.name, path.read_text(encoding="utf-8")) for path in sorted(PACKAGE.glob("*.py"))]


def functions_of(tree):
    return [node for node in ast.walk(tree) if isinstance(node, ast.FunctionDef)]


def trees():
    return [ast.parse(text, name) for name, text in named_files()]


def modified_in(body):
    """The texts of what statements modify: by a method, an item or a slice."""
    found = set()
    for statement in body:
        for node in ast.walk(statement):
            if isinstance(node, ast.Call) and isinstance(node.func, ast.Attribute) and node.func.attr in MODIFYING:
                found.add(ast.unparse(node.func.value))
            if isinstance(node, ast.Subscript) and not isinstance(node.ctx, ast.Load):
                found.add(ast.unparse(node.value))
    return found


class RulesTest(unittest.TestCase):
    def test_files(self):
        self.assertTrue((PACKAGE / "__init__.py").is_file())
        for path in PACKAGE.iterdir():
            if path.name != "__pycache__":
                self.assertRegex(path.name, r"\A[a-z0-9_]+\.py\Z")

    def test_lines_and_characters(self):
        for name, text in named_files():
            with self.subTest(name=name):
                self.assertLessEqual(len(text.splitlines()), 399)
                self.assertLessEqual(max(map(len, text.split("\n"))), 120)
                self.assertEqual({sign for sign in text if sign != "\n" and not " " <= sign <= "~"}, set())

    def test_sizes_of_functions(self):
        for tree in trees():
            for function in functions_of(tree):
                self.assertLessEqual(function.end_lineno - function.lineno + 1, 40, function.name)

    def test_imports(self):
        for tree in trees():
            for node in ast.walk(tree):
                self.assertNotIsInstance(node, ast.Import)
                if isinstance(node, ast.ImportFrom):
                    self.assertEqual(node.level, 0)
                    names = {alias.name for alias in node.names}
                    if node.module in LIBRARY:
                        self.assertLessEqual(names, LIBRARY[node.module])
                    else:
                        self.check_own_import(node.module, names)

    def check_own_import(self, module, names):
        package, name = module.split(".")
        self.assertEqual(package, "turnweights")
        body = ast.parse((PACKAGE / f"{name}.py").read_text(encoding="utf-8")).body
        defined = {node.name for node in body if isinstance(node, (ast.FunctionDef, ast.ClassDef))}
        self.assertLessEqual(names, defined)

    def test_module_level(self):
        for tree in trees():
            for node in tree.body[1:]:
                self.assertIsInstance(node, (ast.ImportFrom, ast.FunctionDef, ast.ClassDef, ast.Assign))
            self.assertIsNotNone(ast.get_docstring(tree))

    def test_parts_of_the_language(self):
        for tree in trees():
            for node in ast.walk(tree):
                self.assertNotIsInstance(node, BARRED)
                if isinstance(node, ast.Constant):
                    self.assertNotIsInstance(node.value, (float, complex))
                    self.assertNotIn("%", str(node.value))
                if isinstance(node, ast.FunctionDef) and node.name.startswith("__"):
                    self.assertIn(node.name, METHODS)

    def test_builtins(self):
        for tree in trees():
            for node in ast.walk(tree):
                if isinstance(node, ast.Name):
                    self.assertNotIn(node.id, OTHER_BUILTINS)
                    if isinstance(node.ctx, ast.Store):
                        self.assertNotIn(node.id, BUILTINS)
                if isinstance(node, ast.arg):
                    self.assertNotIn(node.arg, OTHER_BUILTINS | BUILTINS)

    def test_names_are_used_once(self):
        for tree in trees():
            taken = {node.name for node in tree.body if isinstance(node, ast.ClassDef)}
            for node in tree.body:
                if isinstance(node, ast.ImportFrom):
                    taken.update(alias.name for alias in node.names)
                    self.assertEqual({alias.asname for alias in node.names}, {None})
            for function in functions_of(tree):
                for node in ast.walk(function):
                    if isinstance(node, ast.arg):
                        self.assertNotIn(node.arg, taken, function.name)
                    if isinstance(node, ast.Name) and isinstance(node.ctx, ast.Store):
                        self.assertNotIn(node.id, taken, function.name)

    def test_calls(self):
        for tree in trees():
            for node in ast.walk(tree):
                if isinstance(node, ast.Call) and isinstance(node.func, ast.Name):
                    if node.func.id in {"any", "all", "sum", "sorted", "min", "max"}:
                        for value in node.args:
                            self.assertNotIsInstance(value, ast.GeneratorExp)
                if isinstance(node, ast.Call) and isinstance(node.func, ast.Attribute):
                    self.assertNotIn(node.func.attr, {"sort", "format", "format_map"})

    def test_stars(self):
        for tree in trees():
            for node in ast.walk(tree):
                for value in node.args if isinstance(node, ast.Call) else []:
                    if isinstance(value, ast.Starred):
                        self.assertIsInstance(value.value, (ast.Name, ast.Attribute, ast.List, ast.Tuple, ast.Dict))

    def test_what_a_loop_goes_over_stays(self):
        for tree in trees():
            for loop in ast.walk(tree):
                if isinstance(loop, ast.For):
                    gone_over = {ast.unparse(node) for node in ast.walk(loop.iter)
                                 if isinstance(node, (ast.Name, ast.Attribute))}
                    self.assertEqual(gone_over & modified_in(loop.body), set())

    def test_words(self):
        for name, text in named_files():
            for token in tokenize.generate_tokens(io.StringIO(text).readline):
                if token.type == tokenize.NAME:
                    self.assertNotIn(token.string, UNUSED, name)


if __name__ == "__main__":
    unittest.main()
