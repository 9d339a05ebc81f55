"""What a test can see of ../shared/LANGUAGE.md; the rules are named by their numbers."""

import ast
import builtins
import re
import unittest
from pathlib import Path

PACKAGE = Path(__file__).resolve().parent.parent / "sweetsring"
LIBRARY = {
    "heapq": {"heapify", "heappop", "heappush", "heappushpop", "heapreplace"},
    "math": {"comb", "factorial", "gcd", "isqrt", "lcm", "perm"},
    "itertools": {
        "accumulate", "chain", "combinations", "islice", "pairwise", "permutations", "product", "zip_longest",
    },
    "collections": {"defaultdict"},
}
BUILTINS = set("""
    len range enumerate zip min max sum abs sorted reversed int str bool list tuple dict set isinstance ord repr any all
    divmod pow getattr hasattr setattr iter next map property staticmethod classmethod super NotImplemented Exception
    ValueError TypeError KeyError IndexError LookupError ZeroDivisionError ArithmeticError OverflowError RuntimeError
    NotImplementedError AttributeError StopIteration
""".split())
FUNCTIONS = (ast.FunctionDef, ast.AsyncFunctionDef)
NOT_ALLOWED = (ast.AsyncFunctionDef, ast.AsyncFor, ast.AsyncWith, ast.Await, ast.Global, ast.Div)


def files():
    return sorted(path for path in PACKAGE.rglob("*") if path.is_file() and "__pycache__" not in path.parts)


def trees():
    return [(path.name, ast.parse(path.read_text(encoding="utf-8"))) for path in files()]


def bound_names(tree):
    """All names that a file binds anywhere, but for those of methods and attributes."""
    methods = {id(row) for node in ast.walk(tree) if isinstance(node, ast.ClassDef) for row in node.body}
    for node in ast.walk(tree):
        if isinstance(node, ast.Name) and isinstance(node.ctx, ast.Store):
            yield node.id
        elif isinstance(node, ast.arg):
            yield node.arg
        elif isinstance(node, FUNCTIONS + (ast.ClassDef,)) and id(node) not in methods:
            yield node.name


class FormTest(unittest.TestCase):

    def test_files(self):
        """L1, L14: plain lower-case Python files, and nothing else."""
        self.assertTrue(PACKAGE.joinpath("__init__.py").is_file())
        for path in files():
            self.assertRegex(path.name, "^[a-z0-9_]+[.]py$")
            self.assertEqual(PACKAGE, path.parent)

    def test_characters_and_sizes(self):
        """L10, L14."""
        for path in files():
            text = path.read_bytes().decode("ascii")
            self.assertIsNone(re.search("[^ -~\n]", text), path.name)
            self.assertLessEqual(len(text.splitlines()), 399, path.name)
            self.assertLessEqual(max(map(len, text.splitlines())), 120, path.name)
            for node in ast.walk(ast.parse(text)):
                if isinstance(node, FUNCTIONS):
                    self.assertLessEqual(node.end_lineno - node.lineno + 1, 40, (path.name, node.name))

    def test_imports(self):
        """L2, L16: from the package, by full names, from the very file that defines the name; little else."""
        defined = {}
        for name, tree in trees():
            rows = [row for row in tree.body if isinstance(row, FUNCTIONS + (ast.ClassDef,))]
            targets = [target for row in tree.body if isinstance(row, ast.Assign) for target in row.targets]
            defined["sweetsring." + name[:-3]] = {row.name for row in rows} | {target.id for target in targets}
        for name, tree in trees():
            for node in ast.walk(tree):
                self.assertNotIsInstance(node, ast.Import, name)
                if isinstance(node, ast.ImportFrom):
                    self.assertEqual(0, node.level, name)
                    self.assertIn(node, tree.body, name)
                    known = LIBRARY.get(node.module) or defined[node.module]
                    for alias in node.names:
                        self.assertIn(alias.name, known, name)

    def test_no_two_files_import_from_each_other(self):
        """L16."""
        edges = {}
        for name, tree in trees():
            edges["sweetsring." + name[:-3]] = {row.module for row in tree.body if isinstance(row, ast.ImportFrom)}
        while edges:
            free = [name for name in edges if not edges[name] & set(edges)]
            self.assertTrue(free, edges)
            for name in free:
                del edges[name]

    def test_builtins(self):
        """L8, L15: few of them are used, and none gets another meaning."""
        for name, tree in trees():
            bound = set(bound_names(tree))
            self.assertEqual(set(), bound & set(vars(builtins)), name)
            used = {node.id for node in ast.walk(tree) if isinstance(node, ast.Name)}
            self.assertEqual(set(), (used & set(vars(builtins))) - BUILTINS, name)

    def test_module_level(self):
        """L3, L15: docstrings, imports, functions, classes and plain names, each bound once."""
        for name, tree in trees():
            found = []
            for row in tree.body:
                if isinstance(row, ast.Expr):
                    self.assertIsInstance(row.value, ast.Constant, name)
                elif isinstance(row, ast.ImportFrom):
                    found.extend(alias.asname or alias.name for alias in row.names)
                elif isinstance(row, ast.Assign):
                    self.assertEqual(1, len(row.targets), name)
                    found.append(row.targets[0].id)
                else:
                    self.assertIsInstance(row, (ast.FunctionDef, ast.ClassDef), name)
                    found.append(row.name)
            self.assertEqual(len(found), len(set(found)), name)

    def test_no_other_statements_and_values(self):
        """L6, L7, L13, L27: nothing asynchronous, no global, no division to floats, no floats, no % in a string."""
        for name, tree in trees():
            for node in ast.walk(tree):
                self.assertNotIsInstance(node, NOT_ALLOWED, name)
                if isinstance(node, ast.Constant):
                    self.assertNotIsInstance(node.value, (float, complex), name)
                    self.assertNotIn("%", str(node.value), name)
                if isinstance(node, ast.Raise) and node.exc is not None:
                    self.assertIsInstance(node.exc, ast.Call, name)

    def test_any_and_the_like_take_lists(self):
        """L7: where a class has an __eq__, they take no generator expression."""
        for name, tree in trees():
            for node in ast.walk(tree):
                if isinstance(node, ast.Call) and isinstance(node.func, ast.Name):
                    if node.func.id in ("any", "all", "min", "max", "sum", "sorted"):
                        for argument in node.args:
                            self.assertNotIsInstance(argument, ast.GeneratorExp, name)
