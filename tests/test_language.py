"""The files of the package keep to the subset of the language, as far as a plain look at them tells.

Only what is surely against a rule is reported; the rules say more than is looked at here.
"""

import ast
import builtins
import unittest
from pathlib import Path

PACKAGE = Path(__file__).resolve().parent.parent / "piecetables"

BUILTINS = set(
    "len range enumerate zip min max sum abs sorted reversed int str bool bytes list tuple dict set frozenset "
    "isinstance ord repr any all divmod pow getattr hasattr setattr iter next map property staticmethod classmethod "
    "super object float Exception ValueError TypeError KeyError IndexError LookupError ZeroDivisionError "
    "ArithmeticError OverflowError RuntimeError NotImplementedError AttributeError StopIteration NotImplemented "
    "print".split()
)

LIBRARY = {
    "heapq": {"heappush", "heappop", "heapify", "heapreplace", "heappushpop"},
    "math": {"gcd", "lcm", "isqrt", "comb", "perm", "factorial"},
    "itertools": {
        "product", "combinations", "permutations", "chain", "accumulate", "pairwise", "islice", "zip_longest",
    },
    "collections": {"defaultdict"},
    "__future__": {"annotations"},
}

STATEMENTS = (
    ast.Assign, ast.AugAssign, ast.AnnAssign, ast.If, ast.While, ast.For, ast.Return, ast.Break, ast.Continue,
    ast.Pass, ast.Raise, ast.Assert, ast.Delete, ast.Nonlocal, ast.Match, ast.With, ast.Expr, ast.Try, ast.FunctionDef,
    ast.ClassDef, ast.ImportFrom,
)

NEVER = ("register mro elements open input law version_info with_traceback add_note eval exec compile globals locals "
         "vars dir type id help").split()

WORDS = ("type typing typing_extensions enum Enum IntEnum StrEnum Flag IntFlag Generic Protocol ABC ABCMeta namedtuple "
         "NamedTuple TypedDict TYPE_CHECKING abstractmethod").split()

DECORATORS = ("property", "staticmethod", "classmethod")


def names_bound(node):
    """Return the names that a node binds."""
    if isinstance(node, ast.Name) and isinstance(node.ctx, ast.Store):
        return [node.id]
    if isinstance(node, ast.arg):
        return [node.arg]
    if isinstance(node, (ast.FunctionDef, ast.ClassDef)):
        return [node.name]
    if isinstance(node, ast.alias):
        return [node.asname or node.name]
    return []


def names_read(node):
    """Return the names that a node reads, attributes included."""
    if isinstance(node, ast.Name):
        return [node.id]
    return [node.attr] if isinstance(node, ast.Attribute) else []


class Language(unittest.TestCase):

    def setUp(self):
        self.files = sorted(path for path in PACKAGE.rglob("*") if path.is_file() and "__pycache__" not in path.parts)
        self.texts = {path: path.read_text(encoding="utf-8") for path in self.files}
        self.trees = {path: ast.parse(text) for path, text in self.texts.items()}
        self.nodes = [(path, node) for path, tree in self.trees.items() for node in ast.walk(tree)]

    def told(self, path, node):
        return f"{path.name}, line {getattr(node, 'lineno', '?')}"

    def test_files(self):
        self.assertIn(PACKAGE / "__init__.py", self.files)
        self.assertLessEqual(len(self.files), 100)
        for path in self.files:
            self.assertEqual(path.suffix, ".py")
            self.assertRegex(path.stem, "^[a-z0-9_]+$")
            self.assertNotIn(path.stem, dir(builtins))

    def test_lines_and_characters(self):
        for path, text in self.texts.items():
            self.assertLessEqual(len(text.splitlines()), 399, path.name)
            self.assertEqual([sign for sign in text if sign != "\n" and not " " <= sign <= "~"], [], path.name)
            for number, line in enumerate(text.splitlines(), 1):
                self.assertLessEqual(len(line), 120, f"{path.name}, line {number}")

    def test_functions_are_short(self):
        for path, node in self.nodes:
            if isinstance(node, ast.FunctionDef):
                self.assertLessEqual(node.end_lineno - node.lineno + 1, 40, self.told(path, node))

    def test_imports(self):
        for path, node in self.nodes:
            self.assertNotIsInstance(node, ast.Import, self.told(path, node))
            if isinstance(node, ast.ImportFrom):
                own = node.module is not None and node.module.startswith("piecetables.")
                known = LIBRARY.get(node.module, set())
                self.assertEqual(node.level, 0, self.told(path, node))
                self.assertTrue(own or {alias.name for alias in node.names} <= known, self.told(path, node))

    def test_imported_names_are_defined_in_the_file_that_is_named(self):
        defined = {path.stem: {name for node in tree.body for name in self.defined(node)}
                   for path, tree in self.trees.items()}
        for path, node in self.nodes:
            if isinstance(node, ast.ImportFrom) and node.module.startswith("piecetables."):
                for alias in node.names:
                    self.assertIn(alias.name, defined[node.module.split(".")[1]], self.told(path, node))

    def defined(self, node):
        targets = node.targets if isinstance(node, ast.Assign) else [node]
        return [name for target in targets for name in names_bound(target)]

    def test_module_level(self):
        allowed = (ast.Expr, ast.ImportFrom, ast.FunctionDef, ast.ClassDef, ast.Assign)
        for path, tree in self.trees.items():
            for node in tree.body:
                self.assertIsInstance(node, allowed, self.told(path, node))
                if isinstance(node, ast.Expr):
                    self.assertIs(node, tree.body[0], self.told(path, node))

    def test_statements_and_expressions(self):
        barred = (ast.AsyncFunctionDef, ast.Await, ast.Global, ast.Div, ast.MatMult, ast.TryStar, ast.MatchMapping)
        for path, node in self.nodes:
            if isinstance(node, ast.stmt):
                self.assertIsInstance(node, STATEMENTS, self.told(path, node))
            self.assertNotIsInstance(node, barred, self.told(path, node))
            if isinstance(node, ast.Constant):
                self.assertNotIsInstance(node.value, (float, complex), self.told(path, node))
                if isinstance(node.value, str):
                    self.assertNotIn("%", node.value, self.told(path, node))
            if isinstance(node, ast.ClassDef):
                self.assertEqual(node.decorator_list, [], self.told(path, node))
            if isinstance(node, ast.ExceptHandler):
                self.assertIsNotNone(node.type, self.told(path, node))

    def test_decorators(self):
        for path, node in self.nodes:
            if isinstance(node, ast.FunctionDef):
                for decorator in node.decorator_list:
                    name = decorator.attr if isinstance(decorator, ast.Attribute) else decorator.id
                    self.assertIn(name, [*DECORATORS, "setter"], self.told(path, node))

    def test_builtins(self):
        for path, node in self.nodes:
            for name in names_bound(node):
                self.assertNotIn(name, dir(builtins), self.told(path, node))
            if isinstance(node, ast.Name) and node.id in dir(builtins):
                self.assertIn(node.id, BUILTINS, self.told(path, node))

    def test_names(self):
        for path, node in self.nodes:
            bound = names_bound(node)
            for name in [*bound, *names_read(node)]:
                self.assertNotIn(name, NEVER, self.told(path, node))
            for name in bound:
                self.assertNotRegex(name, "^_(wall|pe_|dcw_|enum_|cm_|twin_re_|lay_|law_|stub_|sre)")
                self.assertNotIn(name, WORDS, self.told(path, node))

    def test_names_are_bound_once(self):
        for path, tree in self.trees.items():
            imported = [alias.name for node in tree.body if isinstance(node, ast.ImportFrom) for alias in node.names]
            classes = [node.name for node in tree.body if isinstance(node, ast.ClassDef)]
            bound = [*imported, *[name for node in tree.body for name in self.defined(node)]]
            self.assertEqual(sorted(set(bound)), sorted(bound), path.name)
            for function in ast.walk(tree):
                if isinstance(function, ast.FunctionDef):
                    for node in ast.walk(function):
                        for name in names_bound(node):
                            self.assertNotIn(name, [*imported, *classes], self.told(path, node))

    def test_generator_expressions_and_sets(self):
        for path, node in self.nodes:
            if isinstance(node, ast.Call) and isinstance(node.func, ast.Name):
                if node.func.id in ("any", "all", "min", "max", "sum", "sorted"):
                    for argument in node.args:
                        self.assertNotIsInstance(argument, ast.GeneratorExp, self.told(path, node))
            if isinstance(node, (ast.For, ast.comprehension)):
                self.assertNotIsInstance(node.iter, (ast.Set, ast.SetComp), self.told(path, node.iter))

    def test_generators(self):
        for path, tree in self.trees.items():
            statements = [node for node in ast.walk(tree) if isinstance(node, ast.Expr)]
            own = [node.value for node in statements if isinstance(node.value, (ast.Yield, ast.YieldFrom))]
            for function in ast.walk(tree):
                if not isinstance(function, ast.FunctionDef):
                    continue
                yielded = [node for node in ast.walk(function) if isinstance(node, (ast.Yield, ast.YieldFrom))]
                if yielded:
                    self.assertEqual(function.decorator_list, [], self.told(path, function))
                    self.assertFalse(function.name.startswith("__"), self.told(path, function))
                    for node in ast.walk(function):
                        self.assertNotIsInstance(node, (ast.Try, ast.With), self.told(path, node))
                        if isinstance(node, ast.Return):
                            self.assertIsNone(node.value, self.told(path, node))
                for node in yielded:
                    self.assertIn(node, own, self.told(path, node))

    def test_nothing_that_goes_over_what_is_iterated_over_and_has_a_length(self):
        # Pieces have a length and a method that says that they are not iterated over.
        for path, node in self.nodes:
            if isinstance(node, ast.ImportFrom):
                self.assertNotEqual(node.module, "itertools", self.told(path, node))

    def test_what_double_underscore_methods_return(self):
        for path, node in self.nodes:
            if isinstance(node, ast.FunctionDef) and node.name in ("__len__", "__repr__", "__str__"):
                self.assertIsInstance(node.body[-1], ast.Return, self.told(path, node))
                for inner in ast.walk(node):
                    self.assertNotIsInstance(inner, (ast.Assign, ast.AnnAssign), self.told(path, inner))
                    if isinstance(inner, ast.Return):
                        told = ast.unparse(inner.value)
                        known = r"len\(.*\)|\d+" if node.name == "__len__" else r"f?['\"].*|(str|repr)\(.*\)"
                        self.assertRegex(told, f"^({known})$", self.told(path, inner))

    def test_ends_of_blocks(self):
        allowed = (
            ast.Assign, ast.If, ast.Name, ast.Attribute, ast.Compare, ast.Is, ast.IsNot, ast.Constant, ast.Load,
            ast.Store,
        )
        for path, node in self.nodes:
            if isinstance(node, ast.FunctionDef) and node.name == "__exit__":
                for statement in node.body:
                    for inner in ast.walk(statement):
                        self.assertIsInstance(inner, allowed, self.told(path, inner))
                        if isinstance(inner, ast.Name):
                            self.assertNotIn(inner.id, ("value", "trace"), self.told(path, inner))

    def test_names_of_classes(self):
        for path, node in self.nodes:
            if isinstance(node, ast.Attribute) and node.attr == "__name__":
                self.assertEqual(getattr(node.value, "attr", None), "__class__", self.told(path, node))
            if isinstance(node, ast.Attribute):
                below = getattr(node.value, "attr", None)
                self.assertEqual(below == "__class__", node.attr == "__name__", self.told(path, node))
            if isinstance(node, ast.Name):
                self.assertFalse(node.id.startswith("__"), self.told(path, node))

    def test_is(self):
        for path, node in self.nodes:
            if isinstance(node, ast.Compare) and isinstance(node.ops[0], (ast.Is, ast.IsNot)):
                right = node.comparators[0]
                plain = isinstance(right, ast.Constant) and right.value in (None, True, False)
                self.assertTrue(plain or "self" in [*names_read(right), *names_read(node.left)], self.told(path, node))

    def test_no_ring_of_imports(self):
        wanted = {
            path.stem: {node.module.split(".")[1] for node in tree.body
                        if isinstance(node, ast.ImportFrom) and node.module.startswith("piecetables.")}
            for path, tree in self.trees.items()
        }
        while wanted:
            ready = [name for name, needs in wanted.items() if not needs & set(wanted)]
            self.assertTrue(ready, f"these files import each other: {sorted(wanted)}")
            for name in ready:
                del wanted[name]


if __name__ == "__main__":
    unittest.main()
