"""LANGUAGE.md, L5 Operators and Properties, L28: what operators, comparisons, lengths and properties run changes only
lists and dicts of its own, and calls nothing that it is handed or holds."""

import ast
import unittest
from pathlib import Path

PACKAGE = Path(__file__).resolve().parent.parent / "namechains"

# What changes the value on which it is called.
CHANGING = {"append", "clear", "extend", "insert", "pop", "remove", "reverse", "setdefault", "update", "sort", "add",
            "discard"}

MAKING = {"list", "dict", "sorted"}


def is_made(value):
    """Whether the expression makes a new list or dict in one of the ways that L5 Operators lists."""
    if isinstance(value, (ast.List, ast.Dict, ast.ListComp)):
        return True
    return isinstance(value, ast.Call) and isinstance(value.func, ast.Name) and value.func.id in MAKING


def named_in(node):
    return {one.id for one in ast.walk(node) if isinstance(one, ast.Name)}


def bound_to_other_things(function):
    """The names that are given anything but a list or dict that the function makes: also by loops and parameters."""
    found = {one.arg for one in ast.walk(function) if isinstance(one, ast.arg)}
    for node in ast.walk(function):
        if isinstance(node, ast.Assign):
            for target in node.targets:
                if not isinstance(target, ast.Name):
                    # What an item or an attribute is assigned to keeps its name.
                    is_kept = isinstance(target, (ast.Subscript, ast.Attribute))
                    found |= set() if is_kept else named_in(target)
                elif not is_made(node.value):
                    found.add(target.id)
        elif isinstance(node, (ast.AnnAssign, ast.NamedExpr, ast.AugAssign)):
            found |= named_in(node.target) if isinstance(node.target, ast.Name) else set()
        elif isinstance(node, (ast.For, ast.comprehension)):
            found |= named_in(node.target)
    return found


def changed_in(function):
    """The expressions whose items or members the function changes."""
    for node in ast.walk(function):
        if isinstance(node, ast.Call) and isinstance(node.func, ast.Attribute) and node.func.attr in CHANGING:
            yield node.func.value
        if isinstance(node, ast.Call) and isinstance(node.func, ast.Name) and node.func.id.startswith("heap"):
            yield node.args[0]
        if isinstance(node, ast.Subscript) and not isinstance(node.ctx, ast.Load):
            yield node.value


def faults(function):
    """What the function does that nothing may do that an operator or a property runs."""
    others = bound_to_other_things(function)
    for changed in changed_in(function):
        if not isinstance(changed, ast.Name) or changed.id in others:
            yield f"{function.name} {changed.lineno}: changes {ast.unparse(changed)}"
    local = {node.id for node in ast.walk(function) if isinstance(node, ast.Name) and isinstance(node.ctx, ast.Store)}
    local |= {one.arg for one in ast.walk(function) if isinstance(one, ast.arg)}
    for node in ast.walk(function):
        if isinstance(node, ast.Attribute) and not isinstance(node.ctx, ast.Load) and function.name != "__init__":
            yield f"{function.name} {node.lineno}: assigns {ast.unparse(node)}"
        if isinstance(node, ast.AugAssign) and not (
                isinstance(node.target, ast.Name) and isinstance(node.value, ast.Constant)
                and isinstance(node.value.value, int)):
            yield f"{function.name} {node.lineno}: {ast.unparse(node)}"
        if isinstance(node, ast.Call) and isinstance(node.func, ast.Name) and node.func.id in local - {"cls"}:
            yield f"{function.name} {node.lineno}: calls {node.func.id}"
        if isinstance(node, ast.Call) and not isinstance(node.func, (ast.Name, ast.Attribute)):
            yield f"{function.name} {node.lineno}: calls {ast.unparse(node.func)}"


def is_property(function):
    return any(isinstance(one, ast.Name) and one.id == "property" for one in function.decorator_list)


def is_operator(function):
    return function.name.startswith("__") and function.name not in ("__init__", "__call__", "__setitem__")


class Package:
    """The functions, methods and classes of all files by their names: names are not resolved more finely."""

    def __init__(self, trees):
        self.functions = {}
        self.methods = {}
        self.classes = {}
        self.roots = []
        for node in [node for tree in trees for node in tree.body]:
            if isinstance(node, ast.FunctionDef):
                self.functions.setdefault(node.name, []).append(node)
            if isinstance(node, ast.ClassDef):
                self.add_class(node)

    def add_class(self, node):
        for method in [one for one in node.body if isinstance(one, ast.FunctionDef)]:
            self.methods.setdefault(method.name, []).append(method)
            if method.name == "__init__":
                self.classes.setdefault(node.name, []).append(method)
            if is_property(method) or is_operator(method):
                self.roots.append(method)

    def called_by(self, function):
        for node in ast.walk(function):
            if isinstance(node, ast.Call) and isinstance(node.func, ast.Name):
                yield from self.functions.get(node.func.id, [])
                yield from self.classes.get(node.func.id, [])
            if isinstance(node, ast.Call) and isinstance(node.func, ast.Attribute):
                yield from self.methods.get(node.func.attr, [])

    def run_by_roots(self):
        found = list(self.roots)
        for function in found:
            found.extend([called for called in self.called_by(function) if called not in found])
        return found


def read(*texts):
    return Package([ast.parse(text) for text in texts])


class Quiet(unittest.TestCase):
    def faults_of(self, *texts):
        return [fault for function in read(*texts).run_by_roots() for fault in faults(function)]

    def test_what_operators_and_properties_run(self):
        texts = [path.read_text(encoding="utf-8") for path in sorted(PACKAGE.glob("*.py"))]
        run = {function.name for function in read(*texts).run_by_roots()}
        self.assertLessEqual({"combined", "least_table", "classes_of", "grouped", "first_words", "order_of"}, run)
        self.assertEqual(self.faults_of(*texts), [])

    def test_faults_are_found(self):
        head = "class Box:\n    def __or__(self, other):\n        "
        for body in ("self.rows.append(1)", "self.many = 1", "other[0] = 1", "other(1)", "rows = {1: 2 for _ in [1]}; "
                     "rows[1] = 2", "rows = self.rows; rows.append(1)", "return helped([], 1)", "del other[0]",
                     "rows = []; a = [rows for rows in other]; rows.append(1)", "self.rows[0](1)", "rows = []; rows += [1]",
                     "rows = []; rows, a = other; rows.append(a)", "rows[0].append(1)"):
            helper = "def helped(rows, one):\n    rows.append(one)\n"
            with self.subTest(body):
                self.assertNotEqual(self.faults_of(head + body, helper), [])
        for body in ("rows = [1]; rows.append(2); rows[0] = 3; return rows", "at = 0; at += 1", "return helped(1)",
                     "rows = sorted(other); rows.pop()", "number = {}; number[1] = 2"):
            helper = "def helped(one):\n    rows = list(one)\n    rows.append(one)\n    return rows\n"
            with self.subTest(body):
                self.assertEqual(self.faults_of(head + body, helper), [])


if __name__ == "__main__":
    unittest.main()
