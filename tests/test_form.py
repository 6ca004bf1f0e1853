"""The rules of LANGUAGE.md that can be counted: files, imports, sizes, characters (L1, L2, L10, L14, L16, L27)."""

import ast
import unittest
import warnings
from pathlib import Path

PACKAGE = Path(__file__).resolve().parent.parent / "namechains"

LIBRARY = {
    "heapq": {"heappush", "heappop", "heapify", "heapreplace", "heappushpop"},
    "math": {"gcd", "lcm", "isqrt", "comb", "perm", "factorial"},
    "itertools": {"product", "combinations", "permutations"},
}


def sources():
    return {path.name: path.read_bytes().decode("utf-8") for path in sorted(PACKAGE.glob("*.py"))}


def defined_in(tree):
    return {node.name for node in tree.body if isinstance(node, (ast.FunctionDef, ast.ClassDef))} | {
        node.targets[0].id for node in tree.body if isinstance(node, ast.Assign)}


class Form(unittest.TestCase):
    def test_the_folder_contains_only_plain_files(self):
        names = [path.name for path in PACKAGE.iterdir() if path.name != "__pycache__"]
        self.assertEqual(sorted(names), sorted(sources()))
        self.assertIn("__init__.py", names)
        self.assertLessEqual(len(names), 100)

    def test_sizes(self):
        for name, text in sources().items():
            lines = text.split("\n")
            self.assertLessEqual(len(lines), 399, name)
            self.assertLessEqual(max(len(line) for line in lines), 120, name)
            for node in ast.walk(ast.parse(text)):
                if isinstance(node, ast.FunctionDef):
                    self.assertLessEqual(node.end_lineno - node.lineno + 1, 40, f"{name} {node.name}")

    def test_characters(self):
        for name, text in sources().items():
            self.assertEqual([c for c in text if c != "\n" and not " " <= c <= "~"], [], name)
            strings = [node.value for node in ast.walk(ast.parse(text))
                       if isinstance(node, ast.Constant) and isinstance(node.value, str)]
            self.assertEqual([string for string in strings if "%" in string], [], name)

    def test_imports_name_the_defining_file(self):
        trees = {f"namechains.{name[:-3]}": ast.parse(text) for name, text in sources().items()}
        for name, tree in trees.items():
            for node in ast.walk(tree):
                self.assertNotIsInstance(node, ast.Import, name)
                if isinstance(node, ast.ImportFrom):
                    known = LIBRARY.get(node.module) or defined_in(trees[node.module])
                    self.assertEqual({alias.name for alias in node.names} - known, set(), name)

    def test_python_gives_no_warning(self):
        with warnings.catch_warnings():
            warnings.simplefilter("error")
            for name, text in sources().items():
                compile(text, name, "exec")
