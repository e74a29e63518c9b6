"""Some of the rules of the language that a test can see; the names of the tests tell which."""

import ast
import builtins
import re
import unittest
import warnings
from pathlib import Path

import screwsums

PACKAGE = Path(screwsums.__file__).parent
FILES = sorted(PACKAGE.rglob("*.py"))
BUILTINS = set("""len range enumerate zip min max sum abs sorted reversed int str bool bytes list tuple dict set frozenset
    isinstance ord repr any all divmod pow iter next map getattr hasattr setattr type super object property staticmethod
    classmethod Exception ValueError TypeError KeyError IndexError LookupError ZeroDivisionError ArithmeticError
    OverflowError RuntimeError NotImplementedError AttributeError StopIteration NotImplemented""".split())
LIBRARY = {"heapq", "math", "itertools", "collections"}
BARRED_NODES = (ast.AsyncFunctionDef, ast.AsyncFor, ast.AsyncWith, ast.Await, ast.Import, ast.GeneratorExp, ast.Div,
                ast.TryStar)
BARRED_WORDS = re.compile(r"\b(typing|typing_extensions|enum|Enum|namedtuple|NamedTuple|Generic|Protocol|ABC|_wall)\b")


def names_bound(tree):
    for node in ast.walk(tree):
        if isinstance(node, (ast.FunctionDef, ast.ClassDef)):
            yield node.name
        elif isinstance(node, ast.arg):
            yield node.arg
        elif isinstance(node, ast.Name) and isinstance(node.ctx, ast.Store):
            yield node.id
        elif isinstance(node, ast.alias):
            yield node.asname or node.name


def of_each_file(test):
    """The test, done of each file of the package, its text and its tree."""
    def done(self):
        for path in FILES:
            with self.subTest(file=path.name):
                text = path.read_text(encoding="ascii")
                test(self, text, ast.parse(text))
    return done


def definitions(tree):
    return [node.name for node in tree.body if isinstance(node, (ast.FunctionDef, ast.ClassDef))]


class LanguageTest(unittest.TestCase):
    def test_files_l1_l14(self):
        held = [path for path in PACKAGE.rglob("*") if "__pycache__" not in path.parts]
        self.assertEqual([path for path in held if path.is_file() and path.suffix != ".py"], [])
        self.assertLessEqual(len(held), 100)
        for path in held:
            self.assertRegex(path.stem, "^[a-z0-9_]+$")

    @of_each_file
    def test_sizes_and_characters_l10_l14(self, text, tree):
        self.assertRegex(text, r"\A[ -~\n]*\Z")
        lines = text.splitlines()
        self.assertLess(len(lines), 400)
        self.assertLessEqual(max(map(len, lines)), 120)
        for node in ast.walk(tree):
            if isinstance(node, ast.FunctionDef):
                self.assertLessEqual(node.end_lineno - node.lineno + 1, 40)

    @of_each_file
    def test_imports_l2_l16(self, _, tree):
        for node in [node for node in ast.walk(tree) if isinstance(node, ast.ImportFrom)]:
            self.assertIn(node, tree.body)
            self.assertEqual(node.level, 0)
            if not node.module.startswith("screwsums."):
                self.assertIn(node.module, LIBRARY)
                continue
            source = ast.parse((PACKAGE / (node.module.split(".")[1] + ".py")).read_text(encoding="ascii"))
            own = definitions(source) + [part.targets[0].id for part in source.body if isinstance(part, ast.Assign)]
            self.assertLessEqual({alias.name for alias in node.names}, set(own))

    def test_no_two_files_import_from_each_other_l16(self):
        needs = {}
        for path in FILES:
            tree = ast.parse(path.read_text(encoding="ascii"))
            needs["screwsums." + path.stem] = {node.module for node in tree.body if isinstance(node, ast.ImportFrom)}
        while needs:
            free = [name for name in needs if not needs[name] & set(needs)]
            self.assertTrue(free, f"these import from each other: {sorted(needs)}")
            for name in free:
                del needs[name]

    @of_each_file
    def test_names_l8_l12_l15_l17(self, text, tree):
        known = set(dir(builtins))
        bound = list(names_bound(tree))
        for name in bound:
            self.assertRegex(name, "^(_?[a-zA-Z][a-zA-Z0-9_]*|_|__[a-z]+__)$")
            self.assertNotIn(name, known)
        used = {node.id for node in ast.walk(tree) if isinstance(node, ast.Name)}
        self.assertLessEqual(used & known - {"__name__"}, BUILTINS)
        self.assertIsNone(BARRED_WORDS.search(text))
        imports = {alias.name for node in tree.body if isinstance(node, ast.ImportFrom) for alias in node.names}
        classes = {node.name for node in tree.body if isinstance(node, ast.ClassDef)}
        self.assertEqual([name for name in imports | classes if bound.count(name) > 1], [])

    @of_each_file
    def test_statements_and_values_l4_l6_l7_l27(self, text, tree):
        for node in ast.walk(tree):
            self.assertNotIsInstance(node, BARRED_NODES)
            if isinstance(node, ast.Constant):
                self.assertNotIsInstance(node.value, (float, complex))
                self.assertNotIn("%", str(node.value))
        with warnings.catch_warnings():
            warnings.simplefilter("error")
            compile(text, "text", "exec")

    @of_each_file
    def test_module_level_l3(self, _, tree):
        for node in tree.body[1:]:
            self.assertIsInstance(node, (ast.ImportFrom, ast.FunctionDef, ast.ClassDef, ast.Assign))
        self.assertIsNotNone(ast.get_docstring(tree))


if __name__ == "__main__":
    unittest.main()
