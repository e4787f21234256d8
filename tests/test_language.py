"""Checks the plainest rules of the Python subset of the package, by their numbers."""

import ast
import builtins
import os
import re
import unittest
import warnings

PACKAGE = os.path.join(os.path.dirname(os.path.dirname(os.path.abspath(__file__))), "trothbase")
LIBRARY = {"heapq", "math", "itertools", "collections"}
BUILTINS = set(
    "len range enumerate zip min max sum abs sorted reversed int str bool bytes list tuple dict set frozenset "
    "isinstance ord repr any all divmod pow getattr hasattr setattr map iter next super property staticmethod "
    "classmethod type Exception ValueError TypeError KeyError IndexError LookupError ZeroDivisionError "
    "ArithmeticError OverflowError RuntimeError NotImplementedError AttributeError StopIteration "
    "NotImplemented".split()
)
ALL_BUILTINS = {name for name in dir(builtins) if not name.startswith("_")}
METHODS = set(
    "append clear copy count endswith extend find get index insert isalnum isalpha isdigit islower isspace isupper "
    "items join keys ljust lower lstrip partition pop remove replace reverse rfind rjust rpartition rsplit rstrip "
    "setdefault split splitlines startswith strip update upper values zfill bit_length add discard".split()
)
STATEMENTS = (
    ast.Assign, ast.AugAssign, ast.AnnAssign, ast.If, ast.While, ast.For, ast.Return, ast.Break, ast.Continue, ast.Pass,
    ast.Raise, ast.Assert, ast.Delete, ast.Nonlocal, ast.Match, ast.With, ast.Try, ast.Expr, ast.FunctionDef,
    ast.ClassDef, ast.ImportFrom, ast.Import, ast.Global,
)
BARRED_WORDS = set(
    "typing typing_extensions enum Enum IntEnum StrEnum Flag IntFlag Generic Protocol ABC ABCMeta namedtuple "
    "NamedTuple TypedDict TYPE_CHECKING abstractmethod register mro elements open input law eval exec globals "
    "locals vars dir compile delattr id".split()
)


def package_files():
    found = []
    for folder, folders, names in os.walk(PACKAGE):
        folders[:] = [name for name in folders if name != "__pycache__"]
        found += [os.path.join(folder, name) for name in names]
    return sorted(found)


class LanguageTest(unittest.TestCase):
    def setUp(self):
        self.files = []
        for path in package_files():
            with open(path, encoding="utf-8", newline="") as held:
                text = held.read()
            with warnings.catch_warnings():
                warnings.simplefilter("error")
                self.files.append((os.path.relpath(path, PACKAGE), text, ast.parse(text)))

    def nodes(self, *kinds):
        for path, _, tree in self.files:
            for node in ast.walk(tree):
                if isinstance(node, kinds):
                    yield path, node

    def where(self, path, node):
        return f"{path}:{getattr(node, 'lineno', '?')}"

    def test_l1_and_l14_files(self):
        self.assertTrue(self.files)
        for path, text, _ in self.files:
            self.assertRegex(path, r"^[a-z0-9_/]+\.py$")
            self.assertEqual(sorted(set(text) - set("\n") - set(map(chr, range(32, 127)))), [], path)

    def test_l2_and_l16_imports(self):
        self.assertEqual(list(self.nodes(ast.Import)), [])
        for path, node in self.nodes(ast.ImportFrom):
            top = node.module.split(".")[0]
            self.assertEqual(node.level, 0, self.where(path, node))
            self.assertTrue(top in LIBRARY or top == "trothbase", self.where(path, node))
            self.assertTrue(all(alias.asname is None and alias.name != "*" for alias in node.names))

    def test_l3_module_level(self):
        for path, _, tree in self.files:
            for node in tree.body:
                docstring = isinstance(node, ast.Expr) and isinstance(node.value, ast.Constant)
                named = isinstance(node, ast.Assign) and [type(target) for target in node.targets] == [ast.Name]
                other = isinstance(node, (ast.ImportFrom, ast.FunctionDef, ast.ClassDef))
                self.assertTrue(docstring or named or other, self.where(path, node))

    def test_l6_statements(self):
        for path, node in self.nodes(ast.stmt):
            self.assertIsInstance(node, STATEMENTS, self.where(path, node))

    def test_l4_and_l5_definitions(self):
        for path, node in self.nodes(ast.FunctionDef, ast.ClassDef):
            self.assertEqual(node.decorator_list, [], self.where(path, node))

    def test_l6_captured_names(self):
        for path, node in self.nodes(ast.FunctionDef):
            parts = list(ast.walk(node))
            captured = {part.name for part in parts if isinstance(part, (ast.MatchAs, ast.MatchStar)) and part.name}
            others = {part.id for part in parts if isinstance(part, ast.Name) and isinstance(part.ctx, ast.Store)}
            others |= {part.arg for part in parts if isinstance(part, ast.arg)}
            self.assertEqual(captured & others - {"_"}, set(), self.where(path, node))

    def test_l6_captured_names_are_read_in_place(self):
        inner = (ast.Lambda, ast.GeneratorExp)
        for path, match in self.nodes(ast.Match):
            for case in match.cases:
                captured = {part.name for part in ast.walk(case.pattern) if isinstance(part, ast.MatchAs) and part.name}
                for part in [part for row in case.body for part in ast.walk(row) if isinstance(part, inner)]:
                    read = {name.id for name in ast.walk(part) if isinstance(name, ast.Name)}
                    self.assertEqual(read & captured, set(), self.where(path, part))

    def test_l18_and_l26_attributes(self):
        barred = set(
            "items keys values pop update append clear extend insert remove reverse setdefault sort args encode decode hex "
            "fromhex format".split()
        )
        taken = {}
        for path, node in self.nodes(ast.ClassDef):
            parts = [part for part in ast.walk(node) if isinstance(part, ast.Attribute) and isinstance(part.ctx, ast.Store)]
            attributes = {part.attr for part in parts}
            methods = {part.name for part in node.body if isinstance(part, ast.FunctionDef)}
            self.assertEqual(attributes & (methods | barred), set(), self.where(path, node))
            taken[node.name] = (attributes, methods)
        for attributes, _ in taken.values():
            for _, methods in taken.values():
                self.assertEqual(attributes & methods, set())

    def test_l23_what_is_iterated_is_not_modified(self):
        changing = {"append", "clear", "extend", "insert", "pop", "remove", "reverse", "setdefault", "update"}
        for path, loop in self.nodes(ast.For):
            over = ast.dump(loop.iter)
            for part in [part for row in loop.body for part in ast.walk(row)]:
                if isinstance(part, ast.Call) and isinstance(part.func, ast.Attribute) and part.func.attr in changing:
                    self.assertNotEqual(ast.dump(part.func.value), over, self.where(path, part))
                if isinstance(part, ast.Subscript) and not isinstance(part.ctx, ast.Load):
                    self.assertNotEqual(ast.dump(part.value), over, self.where(path, part))

    def test_l15_imported_names(self):
        for path, _, tree in self.files:
            taken = {alias.name for node in tree.body if isinstance(node, ast.ImportFrom) for alias in node.names}
            taken |= {node.name for node in tree.body if isinstance(node, ast.ClassDef)}
            for function in [node for node in ast.walk(tree) if isinstance(node, ast.FunctionDef)]:
                parts = list(ast.walk(function))
                named = {part.arg for part in parts if isinstance(part, ast.arg)}
                named |= {part.id for part in parts if isinstance(part, ast.Name) and isinstance(part.ctx, ast.Store)}
                named |= {part.name for part in parts if isinstance(part, ast.MatchAs) and part.name}
                self.assertEqual(named & taken, set(), self.where(path, function))

    def test_l7_values(self):
        for path, node in self.nodes(ast.Constant):
            self.assertNotIsInstance(node.value, (float, complex), self.where(path, node))
        self.assertEqual([self.where(*found) for found in self.nodes(ast.Div, ast.Await, ast.AsyncFor)], [])

    def test_l8_and_l17_names(self):
        for path, node in self.nodes(ast.Name):
            if node.id in ALL_BUILTINS:
                self.assertIn(node.id, BUILTINS, self.where(path, node))
                self.assertIsInstance(node.ctx, ast.Load, self.where(path, node))
            self.assertNotIn(node.id, BARRED_WORDS, self.where(path, node))
        methods = [part for _, node in self.nodes(ast.ClassDef) for part in node.body]
        for path, node in self.nodes(ast.FunctionDef, ast.ClassDef):
            barred = BUILTINS if node in methods else ALL_BUILTINS
            self.assertNotIn(node.name, barred, self.where(path, node))
        for path, node in self.nodes(ast.arg):
            self.assertNotIn(node.arg, ALL_BUILTINS, self.where(path, node))

    def test_l10_sizes(self):
        for path, text, _ in self.files:
            lines = text.split("\n")
            self.assertLessEqual(len(lines), 400, path)
            self.assertLessEqual(max(map(len, lines)), 120, path)
        for path, node in self.nodes(ast.FunctionDef):
            self.assertLessEqual(node.end_lineno - node.lineno + 1, 40, self.where(path, node))

    def test_l12_names(self):
        named = [(path, node, node.id) for path, node in self.nodes(ast.Name)]
        named += [(path, node, node.attr) for path, node in self.nodes(ast.Attribute)]
        named += [(path, node, node.name) for path, node in self.nodes(ast.FunctionDef)]
        for path, node, name in named:
            if not re.match(r"^__[a-z]+__$", name):
                self.assertRegex(name, r"^(_|_?[A-Za-z][A-Za-z0-9_]*)$", self.where(path, node))

    def test_l15_one_binding(self):
        for path, _, tree in self.files:
            names = [node.name for node in tree.body if isinstance(node, (ast.FunctionDef, ast.ClassDef))]
            names += [node.targets[0].id for node in tree.body if isinstance(node, ast.Assign)]
            names += [alias.name for node in tree.body if isinstance(node, ast.ImportFrom) for alias in node.names]
            self.assertEqual(len(names), len(set(names)), path)

    def test_l19_errors(self):
        for path, node in self.nodes(ast.ExceptHandler):
            self.assertIsNotNone(node.type, self.where(path, node))
        for path, node in self.nodes(ast.Raise):
            self.assertTrue(node.exc is None or isinstance(node.exc, ast.Call), self.where(path, node))

    def test_l25_methods(self):
        own = {node.name for _, node in self.nodes(ast.FunctionDef)}
        for path, node in self.nodes(ast.Call):
            if isinstance(node.func, ast.Attribute):
                self.assertIn(node.func.attr, METHODS | own, self.where(path, node))

    def test_l27_strings(self):
        for path, node in self.nodes(ast.Constant):
            if isinstance(node.value, str):
                self.assertNotIn("\x25", node.value, self.where(path, node))
                self.assertNotRegex(node.value, r"^__.*__$", self.where(path, node))
        for path, node in self.nodes(ast.BinOp):
            if isinstance(node.op, ast.Pow):
                self.assertIsInstance(node.right, (ast.Constant, ast.Name, ast.BinOp), self.where(path, node))


if __name__ == "__main__":
    unittest.main()
