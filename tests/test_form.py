"""The rules of LANGUAGE.md that can be counted: files, imports, sizes, characters, builtins, methods (L1, L2, L6 to L8,
L10, L14 to L17, L25, L27)."""

import ast
import builtins
import unittest
import warnings
from pathlib import Path

PACKAGE = Path(__file__).resolve().parent.parent / "namechains"

LIBRARY = {
    "heapq": {"heappush", "heappop", "heapify", "heapreplace", "heappushpop"},
    "math": {"gcd", "lcm", "isqrt", "comb", "perm", "factorial"},
    "itertools": {"product", "combinations", "permutations"},
}

BUILTINS = set("""
    len range enumerate zip min max sum abs sorted reversed int str bool bytes list tuple dict set frozenset isinstance
    ord repr any all divmod iter next map super property staticmethod classmethod Exception ValueError TypeError KeyError
    IndexError LookupError ZeroDivisionError ArithmeticError OverflowError RuntimeError NotImplementedError
    AttributeError StopIteration NotImplemented""".split())

METHODS = set("""
    append clear copy count endswith extend find get index insert isalnum isalpha isdigit islower isspace isupper items
    join keys ljust lower lstrip partition pop remove replace reverse rfind rjust rpartition rsplit rstrip setdefault
    split splitlines startswith strip update upper values zfill bit_length add discard __init__""".split())

# L6 and L7 do not have these; generator expressions are left out wherever a class has an __eq__.
BARRED_NODES = (ast.GeneratorExp, ast.Global, ast.AsyncFunctionDef, ast.Await, ast.Div)

BARRED_NAMES = {"register", "mro", "elements", "open", "input", "law", "version_info", "with_traceback", "add_note"}


def sources():
    return {path.name: path.read_bytes().decode("utf-8") for path in sorted(PACKAGE.glob("*.py"))}


def defined_in(tree):
    return {node.name for node in tree.body if isinstance(node, (ast.FunctionDef, ast.ClassDef))} | {
        node.targets[0].id for node in tree.body if isinstance(node, ast.Assign)}


class Form(unittest.TestCase):
    def test_the_folder_contains_only_plain_files(self):
        names = [path.name for path in PACKAGE.iterdir() if path.name != "__pycache__"]
        self.assertEqual(sorted(names), sorted(sources()))
        self.assertIn("__init__.py", names)
        self.assertLessEqual(len(names), 100)

    def test_sizes(self):
        for name, text in sources().items():
            lines = text.split("\n")
            self.assertLessEqual(len(lines), 399, name)
            self.assertLessEqual(max(len(line) for line in lines), 120, name)
            for node in ast.walk(ast.parse(text)):
                if isinstance(node, ast.FunctionDef):
                    self.assertLessEqual(node.end_lineno - node.lineno + 1, 40, f"{name} {node.name}")

    def test_characters(self):
        for name, text in sources().items():
            self.assertEqual([c for c in text if c != "\n" and not " " <= c <= "~"], [], name)
            strings = [node.value for node in ast.walk(ast.parse(text))
                       if isinstance(node, ast.Constant) and isinstance(node.value, str)]
            self.assertEqual([string for string in strings if "%" in string], [], name)

    def test_imports_name_the_defining_file(self):
        trees = {f"namechains.{name[:-3]}": ast.parse(text) for name, text in sources().items()}
        for name, tree in trees.items():
            for node in ast.walk(tree):
                self.assertNotIsInstance(node, ast.Import, name)
                if isinstance(node, ast.ImportFrom):
                    known = LIBRARY.get(node.module) or defined_in(trees[node.module])
                    self.assertEqual({alias.name for alias in node.names} - known, set(), name)

    def test_imports_are_used(self):
        for name, text in sources().items():
            tree = ast.parse(text)
            imported = {one.name for node in tree.body if isinstance(node, ast.ImportFrom) for one in node.names}
            self.assertLessEqual(imported, {node.id for node in ast.walk(tree) if isinstance(node, ast.Name)}, name)

    def test_files_do_not_import_from_each_other(self):
        trees = {f"namechains.{name[:-3]}": ast.parse(text) for name, text in sources().items()}
        needed = {name: {node.module for node in tree.body if isinstance(node, ast.ImportFrom)} & set(trees)
                  for name, tree in trees.items()}
        while needed:
            free = {name for name in needed if not needed[name]}
            self.assertTrue(free, needed)
            needed = {name: needed[name] - free for name in needed if name not in free}

    def test_builtins_methods_and_kinds_of_nodes(self):
        trees = {name: ast.parse(text) for name, text in sources().items()}
        own = {node.name for tree in trees.values() for node in ast.walk(tree) if isinstance(node, ast.FunctionDef)}
        for name, tree in trees.items():
            for node in ast.walk(tree):
                self.assertNotIsInstance(node, BARRED_NODES, name)
                if isinstance(node, ast.Name):
                    self.assertNotIn(node.id, set(dir(builtins)) - BUILTINS, name)
                if isinstance(node, ast.Call) and isinstance(node.func, ast.Attribute):
                    self.assertIn(node.func.attr, METHODS | own, name)

    def test_names_that_are_assigned(self):
        for name, text in sources().items():
            tree = ast.parse(text)
            top = {alias.name for node in tree.body if isinstance(node, ast.ImportFrom) for alias in node.names}
            top |= {node.name for node in tree.body if isinstance(node, ast.ClassDef)}
            for node in ast.walk(tree):
                if isinstance(node, ast.arg) or (isinstance(node, ast.Name) and isinstance(node.ctx, ast.Store)):
                    assigned = node.arg if isinstance(node, ast.arg) else node.id
                    self.assertNotIn(assigned, top | set(dir(builtins)) | BARRED_NAMES, name)

    def test_attributes_and_methods_have_names_of_their_own(self):
        # L5 and L18 allow some names to be both in different classes; here none is.
        attributes, methods = set(), set()
        for text in sources().values():
            for node in ast.walk(ast.parse(text)):
                if isinstance(node, ast.ClassDef):
                    methods |= {one.name for one in node.body if isinstance(one, ast.FunctionDef)}
                if isinstance(node, ast.Attribute) and isinstance(node.ctx, ast.Store):
                    attributes.add(node.attr)
        self.assertEqual(attributes & methods, set())

    def test_properties_are_no_methods(self):
        plain, properties = set(), set()
        for text in sources().values():
            for node in ast.walk(ast.parse(text)):
                for one in node.body if isinstance(node, ast.ClassDef) else []:
                    if isinstance(one, ast.FunctionDef):
                        is_property = any(ast.unparse(by) == "property" for by in one.decorator_list)
                        (properties if is_property else plain).add(one.name)
        self.assertEqual(properties & (plain | METHODS), set())

    def test_generators_have_names_of_their_own(self):
        generators, others, values = set(), set(), set()
        for text in sources().values():
            tree = ast.parse(text)
            called = {id(node.func) for node in ast.walk(tree) if isinstance(node, ast.Call)}
            for node in ast.walk(tree):
                if isinstance(node, ast.FunctionDef):
                    is_generator = any(isinstance(one, (ast.Yield, ast.YieldFrom)) for one in ast.walk(node))
                    (generators if is_generator else others).add(node.name)
                if isinstance(node, ast.Attribute) and id(node) not in called:
                    values.add(node.attr)
        self.assertEqual(generators & (others | values | METHODS), set())

    def test_stars(self):
        for name, text in sources().items():
            for node in ast.walk(ast.parse(text)):
                if isinstance(node, ast.Subscript) and isinstance(node.slice, ast.Tuple):
                    self.assertFalse(any(isinstance(one, ast.Starred) for one in node.slice.elts), name)
                if isinstance(node, ast.Call):
                    stars = [one for one in node.args if isinstance(one, ast.Starred)]
                    self.assertTrue(all(isinstance(one.value, ast.Name) for one in stars), f"{name} {node.lineno}")
                    plain = (ast.Name, ast.Attribute, ast.Constant)
                    self.assertTrue(not stars or all(isinstance(one, (ast.Starred, *plain)) for one in node.args),
                                    f"{name} {node.lineno}")

    def test_sets_stand_where_they_may(self):
        for name, text in sources().items():
            tree = ast.parse(text)
            above = {id(child): node for node in ast.walk(tree) for child in ast.iter_child_nodes(node)}
            for node in ast.walk(tree):
                is_call = isinstance(node, ast.Call) and isinstance(node.func, ast.Name) and node.func.id == "set"
                if is_call or isinstance(node, (ast.Set, ast.SetComp)):
                    place = above[id(node)]
                    is_asked = isinstance(place, ast.Compare) or (
                        isinstance(place, ast.Call) and place.func.id in ("sorted", "len"))
                    self.assertTrue(is_asked or isinstance(place, ast.Assign), f"{name} {node.lineno}")

    def test_stored_sets_are_used_plainly(self):
        for name, text in sources().items():
            for function in [node for node in ast.walk(ast.parse(text)) if isinstance(node, ast.FunctionDef)]:
                self.check_stored_sets(name, function)

    def check_stored_sets(self, name, function):
        """Each name of a set is assigned once, asked with in, len and sorted, and changed by add and discard."""
        above = {id(child): node for node in ast.walk(function) for child in ast.iter_child_nodes(node)}
        stored = [node.targets[0].id for node in ast.walk(function) if isinstance(node, ast.Assign) and (
            isinstance(node.value, (ast.Set, ast.SetComp)) or (
                isinstance(node.value, ast.Call) and isinstance(node.value.func, ast.Name) and node.value.func.id == "set"))]
        for node in ast.walk(function):
            if isinstance(node, ast.Name) and node.id in stored:
                place = above[id(node)]
                is_plain = isinstance(place, (ast.Compare, ast.If, ast.While, ast.Assign)) or (
                    isinstance(place, ast.Attribute) and place.attr in ("add", "discard")) or (
                    isinstance(place, ast.Call) and place.func.id in ("sorted", "len"))
                self.assertTrue(is_plain, f"{name} {node.lineno}")
        self.assertEqual(len(stored), len(set(stored)), name)

    def test_tries(self):
        # L6, L19: what is caught are own errors; what is done at last is to give names and attributes what names have.
        own = defined_in(ast.parse(sources()["errors.py"]))
        for name, text in sources().items():
            for node in ast.walk(ast.parse(text)):
                if isinstance(node, ast.Try):
                    self.assertLessEqual({ast.unparse(one.type) for one in node.handlers}, own, name)
                    for last in node.finalbody:
                        self.assertIsInstance(last, ast.Assign, name)
                        self.assertIsInstance(last.targets[0], (ast.Name, ast.Attribute), name)
                        self.assertIsInstance(last.value, (ast.Name, ast.Attribute), name)
                if isinstance(node, ast.Raise) and node.exc is not None:
                    self.assertIsInstance(node.exc, ast.Call, name)
                    self.assertIn(ast.unparse(node.exc.func), own | {"TypeError"}, name)

    def test_python_gives_no_warning(self):
        with warnings.catch_warnings():
            warnings.simplefilter("error")
            for name, text in sources().items():
                compile(text, name, "exec")
