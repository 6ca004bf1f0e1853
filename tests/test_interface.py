"""The interface: each name stands in its file, each method in the body of its class, arguments have their names."""

import ast
import importlib
import inspect
import unittest
from pathlib import Path

from namechains.areas import Area
from namechains.books import Book
from namechains.desks import Desk
from namechains.halls import CountingHall, GuardedCountingHall, GuardedHall, Hall
from namechains.languages import Names
from namechains.logs import LoggedHall, View
from namechains.statements import Leave, Naming, Statement
from namechains.ways import ShortestWay, Way
from tests.test_errors import ERRORS

PACKAGE = Path(__file__).resolve().parent.parent / "namechains"

LIMITS = ["LIMIT", "MAX_LETTERS", "MAX_NAMES", "MAX_ASKED", "MAX_STATEMENTS", "MAX_CHAINS", "MAX_TIMES"]

CLASSES = {
    "statements": {
        "Statement": ["person", "days", "text", "is_of"],
        "Naming": ["__init__", "name", "chain", "__eq__"],
        "Leave": ["__init__", "subject", "tags", "times", "__eq__"],
    },
    "books": {
        "Book": ["__init__", "statements", "persons", "names", "__len__", "__getitem__", "with_more", "without", "__eq__",
                 "on", "changes"],
        "Day": ["book", "number", "namings", "leaves", "__eq__"],
    },
    "languages": {
        "Names": ["__init__", "of_table", "__or__", "__and__", "__sub__", "__eq__", "__contains__", "__bool__",
                  "is_within", "table", "size", "least", "persons", "names", "count", "ordered", "headed", "difference",
                  "loop"],
    },
    "ways": {
        "Way": ["__init__", "day", "chain", "goal", "length", "chain_at", "index_at", "part", "chains"],
        "ShortestWay": ["__init__", "day", "chain", "goal", "length", "chain_at", "index_at", "part", "chains"],
    },
    "areas": {
        "Area": ["__init__", "whole", "rows", "size", "least", "__or__", "__and__", "__sub__", "__eq__", "__bool__",
                 "__contains__", "is_within", "on", "days_for", "walk"],
    },
    "halls": {
        "Hall": ["__init__", "book", "moment", "undone", "depth", "state", "take_back", "undo", "redo", "attempt",
                 "explore", "book_at", "spans", "changed"],
        "GuardedHall": ["__init__", "state", "take_back"],
        "CountingHall": ["__init__", "counts"],
        "GuardedCountingHall": ["__init__"],
    },
    "logs": {
        "LoggedHall": ["__init__", "logs", "state", "take_back"],
        "View": ["__init__", "book", "lines", "closed", "logs", "__eq__"],
    },
    "desks": {"Desk": ["__init__", "hall", "say"]},
}

# The functions of each file with their arguments; those behind * by name only.
FUNCTIONS = {
    "meaning": {"means": "day chain", "table_of": "day"},
    "papers": {"paper": "day chain person", "is_paper": "day chain person value"},
    "times": {
        "serves": "day chain person value", "days_of": "book chain person", "timeline": "book chain",
        "paper_for": "book chain person stretch", "lasting": "day chain person", "relay": "day chain person",
    },
    "rewriting": {
        "becomes": "day chain", "settled": "day names", "comes_of": "day one other", "forward": "day names",
        "backward": "day names", "meanings": "day chain", "names_of": "day person", "is_complete": "day names",
        "between": "day one other",
    },
    "futures": {
        "frontier": "day chain closed * kept", "deciders": "day chain closed * kept",
        "parted": "day one other closed * kept", "must_close": "day one other",
        "can_come": "day chain person closed * kept", "sure": "day chain closed",
        "is_never_paper": "day chain person closed value * kept", "never_paper": "day chain person closed * kept",
        "together": "day chains closed * kept", "keep_apart": "day one other",
    },
    "equals": {
        "needless": "day", "needless_now": "day", "lean": "day", "alike": "one other", "told_apart": "one other closed",
    },
    "ways": {
        "steps": "day chain person * names", "count_shortest": "day chain person",
        "count_ways": "day chain person length", "longest": "day chain person", "space": "day chain person",
        "since": "day chain person", "needed": "day chain person", "needed_pairs": "day chain person",
        "spared": "day chain person",
    },
    "rights": {
        "may": "day owner group tag", "needs": "day group tag", "may_alone": "day owner tag",
        "passes_of": "day owner person tag", "least_groups": "day owner tag most", "least_blocks": "day owner tag most",
        "right_paper": "day owner group tag", "is_right_paper": "day owner group tag value",
    },
    "areas": {
        "area": "book owner group", "pass_area": "book owner person least", "unlike": "one other owner group",
        "unlike_group": "one other owner tag most",
    },
    "outlooks": {
        "ever": "day owner group tag closed", "never_right": "day owner group tag closed",
        "is_never_right": "day owner group tag closed value", "ever_area": "book owner group closed",
        "always": "day owner group tag closed", "openers": "day owner group tag most",
        "keepers": "day owner group tag most",
    },
    "logs": {
        "fork": "one other", "joined": "one other", "is_sure": "view chain person day",
        "is_thinkable": "view chain person day", "enough": "view chain person day",
    },
    "texts": {
        "read_statement": "text", "write_book": "book", "read_book": "text", "write_names": "names", "read_names": "text",
    },
}

METHODS = {
    Naming: "person name chain days", Leave: "person subject tags days times", Statement.is_of: "self number",
    Book.on: "self day", Book.changes: "self", Names.of_table: "table", Names.is_within: "self other",
    Names.count: "self number", Names.ordered: "self", Names.headed: "self chain", Names.difference: "self other",
    Names.loop: "self", Area.whole: "", Area.is_within: "self other", Area.on: "self day", Area.days_for: "self tag",
    Area.walk: "self", ShortestWay: "day chain person", Hall: "book", CountingHall: "book",
    LoggedHall: "book * closed", View: "logs", Desk: "", Desk.say: "self row", Hall.book_at: "self number",
    Hall.spans: "self chain person day", Hall.changed: "self first second day",
}
METHODS |= {getattr(one, name): f"self {names}" for one in (Hall, LoggedHall) for name, names in (
    ("undo", "count"), ("redo", "count"), ("attempt", "action"), ("explore", "action"))}
METHODS |= {getattr(one, name): f"self {names}".strip() for one in (Way, ShortestWay) for name, names in (
    ("chain_at", "number"), ("index_at", "number"), ("part", "first last"), ("chains", ""))}

# What stands in the place of a default, where there is one.
DEFAULTS = {"kept": True, "days": None, "times": None, "names": None, "closed": (), "count": 1}


def body_of(file_name):
    return ast.parse((PACKAGE / file_name).read_text(encoding="utf-8")).body


def classes_of(file_name):
    return {node.name: node for node in body_of(file_name) if isinstance(node, ast.ClassDef)}


class Interface(unittest.TestCase):
    def check_arguments(self, function, names):
        """The arguments have these names, are passed by position or by name, and by name only behind a star."""
        by_name_only = False
        expected = []
        for name in names.split():
            if name == "*":
                by_name_only = True
            else:
                expected.append((name, by_name_only))
        parameters = inspect.signature(function).parameters.values()
        kinds = (inspect.Parameter.POSITIONAL_OR_KEYWORD, inspect.Parameter.KEYWORD_ONLY)
        self.assertEqual([(one.name, one.kind == kinds[1]) for one in parameters], expected)
        for parameter in parameters:
            self.assertIn(parameter.kind, kinds)
            if parameter.default is not inspect.Parameter.empty:
                self.assertEqual(parameter.default, DEFAULTS[parameter.name])
                self.assertIs(type(parameter.default), type(DEFAULTS[parameter.name]))
            else:
                self.assertNotIn(parameter.name, ("kept", "days", "times", "count"))
                self.assertFalse(parameter.kind == kinds[1] and parameter.name in DEFAULTS)

    def test_errors_are_defined_in_their_file(self):
        self.assertEqual(set(ERRORS) - set(classes_of("errors.py")), set())

    def test_limits_are_assigned_in_their_file(self):
        assigned = [node.targets[0].id for node in body_of("limits.py") if isinstance(node, ast.Assign)]
        self.assertEqual(assigned, LIMITS)

    def test_classes_have_their_methods_in_their_own_bodies(self):
        for file_name, classes in CLASSES.items():
            found = classes_of(f"{file_name}.py")
            for name, methods in classes.items():
                own = [node.name for node in found[name].body if isinstance(node, ast.FunctionDef)]
                with self.subTest(name):
                    self.assertEqual(set(methods) - set(own), set())

    def test_functions_are_defined_in_their_file(self):
        for file_name, functions in FUNCTIONS.items():
            own = [node.name for node in body_of(f"{file_name}.py") if isinstance(node, ast.FunctionDef)]
            self.assertEqual(set(functions) - set(own), set())

    def test_arguments_have_the_listed_names(self):
        for file_name, functions in FUNCTIONS.items():
            module = importlib.import_module(f"namechains.{file_name}")
            for name, names in functions.items():
                with self.subTest(name):
                    self.check_arguments(getattr(module, name), names)
        for function, names in METHODS.items():
            with self.subTest(function):
                self.check_arguments(function, names)

    def test_arguments_without_end(self):
        for function in (Book, Book.with_more, Book.without, Names, Way, Area, *[
                getattr(one, name) for one in (Hall, GuardedHall, CountingHall, GuardedCountingHall, LoggedHall)
                for name in ("state", "take_back")]):
            last = list(inspect.signature(function).parameters.values())[-1]
            self.assertIs(last.kind, inspect.Parameter.VAR_POSITIONAL)
        for made in (GuardedHall, GuardedCountingHall):
            kinds = [(one.name, one.kind, one.default) for one in inspect.signature(made).parameters.values()]
            self.assertEqual(kinds, [
                ("book", inspect.Parameter.POSITIONAL_OR_KEYWORD, inspect.Parameter.empty),
                ("guards", inspect.Parameter.VAR_POSITIONAL, inspect.Parameter.empty),
                ("closed", inspect.Parameter.KEYWORD_ONLY, ())])
