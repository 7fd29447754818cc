"""The rules of LANGUAGE.md that can be read off a file without judgement."""

import ast
import builtins
import pathlib
import re
import unittest

PACKAGE = pathlib.Path(__file__).resolve().parent.parent / "leastpass"
FILES = sorted(PACKAGE.rglob("*.py"))
TREES = {path: ast.parse(path.read_text(encoding="utf-8")) for path in FILES}
LIBRARY = {
    "heapq": {"heappush", "heappop", "heapify", "heapreplace", "heappushpop"},
    "math": {"gcd", "lcm", "isqrt", "comb", "perm", "factorial"},
    "itertools": {
        "product", "combinations", "permutations", "chain", "accumulate", "pairwise", "islice", "zip_longest",
    },
    "collections": {"defaultdict", "deque"},
}
BUILTINS = set(
    "len range enumerate zip min max sum abs sorted reversed int str bool bytes list tuple dict set frozenset "
    "isinstance ord repr any all divmod pow getattr hasattr setattr iter next map type super property "
    "staticmethod classmethod Exception ValueError TypeError KeyError IndexError LookupError ZeroDivisionError "
    "ArithmeticError OverflowError RuntimeError NotImplementedError AttributeError StopIteration "
    "NotImplemented".split()
)
FORBIDDEN = (
    ast.Import, ast.AsyncFunctionDef, ast.AsyncFor, ast.AsyncWith, ast.Await, ast.Div, ast.MatMult,
)


def nodes(tree, *kinds):
    return [node for node in ast.walk(tree) if isinstance(node, kinds)]


def bound_names(tree):
    names = {node.id for node in nodes(tree, ast.Name) if not isinstance(node.ctx, ast.Load)}
    names |= {node.arg for node in nodes(tree, ast.arg)}
    names |= {node.name for node in nodes(tree, ast.FunctionDef, ast.ClassDef)}
    return names


def module_name(path):
    parts = path.relative_to(PACKAGE.parent).with_suffix("").parts
    return ".".join(part for part in parts if part != "__init__")


class Language(unittest.TestCase):
    def test_the_folder_holds_only_sources(self):
        found = [path for path in PACKAGE.rglob("*") if path.is_file() and "__pycache__" not in path.parts]
        self.assertEqual(sorted(found), FILES)
        self.assertLessEqual(len(FILES), 100)
        self.assertIn(PACKAGE / "__init__.py", FILES)
        for path in FILES:
            self.assertRegex(path.stem, r"^([a-z0-9_]+)$")

    def test_sizes_and_characters(self):
        for path in FILES:
            text = path.read_text(encoding="utf-8")
            lines = text.split("\n")
            with self.subTest(path.name):
                self.assertLessEqual(len(lines), 399)
                self.assertLessEqual(max(len(line) for line in lines), 120)
                self.assertIsNone(re.search(r"[^\n -~]", text))
            for node in nodes(TREES[path], ast.FunctionDef):
                with self.subTest(path.name, function=node.name):
                    self.assertLessEqual(node.end_lineno - node.lineno + 1, 40)

    def test_module_level(self):
        for path, tree in TREES.items():
            for statement in tree.body:
                with self.subTest(path.name, line=statement.lineno):
                    self.assertIsInstance(
                        statement, (ast.ImportFrom, ast.FunctionDef, ast.ClassDef, ast.Assign, ast.Expr),
                    )

    def test_imports(self):
        defined = {
            module_name(path): {node.name for node in tree.body if isinstance(node, (ast.FunctionDef, ast.ClassDef))}
            | {node.targets[0].id for node in tree.body if isinstance(node, ast.Assign)}
            for path, tree in TREES.items()
        }
        for path, tree in TREES.items():
            for node in nodes(tree, ast.ImportFrom):
                with self.subTest(path.name, line=node.lineno):
                    self.assertIn(node, tree.body)
                    self.assertEqual(node.level, 0)
                    allowed = LIBRARY.get(node.module, defined.get(node.module, set()))
                    for alias in node.names:
                        self.assertIn(alias.name, allowed)
                        self.assertIsNone(alias.asname)

    def test_no_circle_of_imports(self):
        needs = {module_name(path): {node.module for node in nodes(tree, ast.ImportFrom)} for path, tree in TREES.items()}
        done = set()
        while len(done) < len(needs):
            ready = {name for name, others in needs.items() if name not in done and not (others & set(needs)) - done}
            self.assertTrue(ready, "modules that import each other: %s" % sorted(set(needs) - done))
            done |= ready

    def test_builtins_and_names(self):
        # A Python session, such as one of the README, leaves its last value in the builtin "_".
        every_builtin = set(dir(builtins)) - {"_"}
        for path, tree in TREES.items():
            with self.subTest(path.name):
                bound = bound_names(tree)
                self.assertEqual(bound & every_builtin, set())
                read = {node.id for node in nodes(tree, ast.Name) if isinstance(node.ctx, ast.Load)}
                self.assertEqual((read & every_builtin) - BUILTINS, set())
                self.assertNotIn("_", read)
                for name in bound - {"_"}:
                    self.assertRegex(name, r"^(__[a-z]+__|_?[A-Za-z][A-Za-z0-9_]*)$")

    def test_statements_and_values(self):
        for path, tree in TREES.items():
            for node in ast.walk(tree):
                with self.subTest(path.name, line=getattr(node, "lineno", None)):
                    self.assertNotIsInstance(node, FORBIDDEN)
                    if isinstance(node, ast.Constant):
                        self.assertNotIsInstance(node.value, (float, complex))
                    if isinstance(node, ast.ExceptHandler):
                        self.assertIsNotNone(node.type)
                    if isinstance(node, ast.ClassDef):
                        self.assertEqual(node.decorator_list, [])

    def test_forms_that_a_class_with_a_comparison_rules_out(self):
        for path, tree in TREES.items():
            with self.subTest(path.name):
                # L7: beside an __eq__, any, all, min, max, sum and sorted take a list.
                self.assertEqual(nodes(tree, ast.GeneratorExp), [])
                # L25: beside an __eq__ or a __len__, no list is sorted in place.
                called = {node.func.attr for node in nodes(tree, ast.Call) if isinstance(node.func, ast.Attribute)}
                self.assertNotIn("sort", called)

    def test_no_name_is_that_of_an_import_or_a_class_of_the_file(self):
        for path, tree in TREES.items():
            with self.subTest(path.name):
                taken = {alias.name for node in nodes(tree, ast.ImportFrom) for alias in node.names}
                taken |= {node.name for node in nodes(tree, ast.ClassDef)}
                local = {node.id for node in nodes(tree, ast.Name) if not isinstance(node.ctx, ast.Load)}
                local |= {node.arg for node in nodes(tree, ast.arg)}
                self.assertEqual(local & taken, set())
