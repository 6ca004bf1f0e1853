"""The interface: each name stands in its file, each method in the body of its class."""

import ast
import inspect
import unittest
from pathlib import Path

from namechains import statements
from tests.test_errors import ERRORS

PACKAGE = Path(__file__).resolve().parent.parent / "namechains"

LIMITS = ["LIMIT", "MAX_LETTERS", "MAX_NAMES", "MAX_ASKED", "MAX_STATEMENTS", "MAX_CHAINS", "MAX_TIMES"]

CLASSES = {
    "Statement": ["person", "days", "text", "is_of"],
    "Naming": ["__init__", "name", "chain", "__eq__"],
    "Leave": ["__init__", "subject", "tags", "times", "__eq__"],
}


def body_of(file_name):
    return ast.parse((PACKAGE / file_name).read_text(encoding="utf-8")).body


def classes_of(file_name):
    return {node.name: node for node in body_of(file_name) if isinstance(node, ast.ClassDef)}


class Interface(unittest.TestCase):
    def test_errors_are_defined_in_their_file(self):
        self.assertEqual(set(ERRORS) - set(classes_of("errors.py")), set())

    def test_limits_are_assigned_in_their_file(self):
        assigned = [node.targets[0].id for node in body_of("limits.py") if isinstance(node, ast.Assign)]
        self.assertEqual(assigned, LIMITS)

    def test_statements_have_their_methods_in_their_own_bodies(self):
        found = classes_of("statements.py")
        for name, methods in CLASSES.items():
            own = [node.name for node in found[name].body if isinstance(node, ast.FunctionDef)]
            with self.subTest(name):
                self.assertEqual(set(methods) - set(own), set())

    def test_arguments_have_the_listed_names(self):
        for function, names in (
            (statements.Naming, ["person", "name", "chain", "days"]),
            (statements.Leave, ["person", "subject", "tags", "days", "times"]),
            (statements.Statement.is_of, ["self", "number"]),
        ):
            parameters = inspect.signature(function).parameters
            self.assertEqual(list(parameters), names)
            for parameter in parameters.values():
                self.assertIs(parameter.kind, inspect.Parameter.POSITIONAL_OR_KEYWORD)
