"""Section 11: the errors."""

import unittest

from namechains import errors
from tests.samples import ANY_VALUES

# Each error with the Python error directly above it and its fields.
ERRORS = {
    "InvalidWord": (ValueError, ("value",)),
    "InvalidChain": (ValueError, ("value",)),
    "InvalidStretch": (ValueError, ("value",)),
    "InvalidSubject": (ValueError, ("value",)),
    "InvalidTimes": (ValueError, ("value",)),
    "InvalidDay": (ValueError, ("value",)),
    "InvalidTable": (ValueError, ("value",)),
    "InvalidCount": (ValueError, ("value",)),
    "InvalidLogs": (ValueError, ("value",)),
    "InvalidStatement": (ValueError, ("index",)),
    "InvalidPart": (ValueError, ("index",)),
    "InvalidGuard": (ValueError, ("index",)),
    "InvalidText": (ValueError, ("index",)),
    "InvalidLine": (ValueError, ("line", "index")),
    "InvalidRow": (ValueError, ("row",)),
    "Repeated": (ValueError, ("index",)),
    "NotDone": (ValueError, ("index",)),
    "NotLeast": (ValueError, ()),
    "OutOfRange": (LookupError, ("value",)),
    "NotMeant": (LookupError, ("word",)),
    "Missing": (LookupError, ("index",)),
    "TooMany": (OverflowError, ("limit",)),
    "Broken": (RuntimeError, ("index",)),
    "Closed": (RuntimeError, ("index",)),
    "Forked": (RuntimeError, ("word", "line")),
}


def field_rows(fields):
    """Every value for the first field, and for the second one the same values in another order."""
    columns = [ANY_VALUES, ANY_VALUES[1:] + ANY_VALUES[:1]]
    return list(zip(*columns[:len(fields)])) if fields else [()]


class Errors(unittest.TestCase):
    def test_each_is_directly_below_its_python_error(self):
        for name, (base, _) in ERRORS.items():
            with self.subTest(name):
                self.assertEqual(getattr(errors, name).__bases__, (base,))

    def test_made_by_position(self):
        for name, (_, fields) in ERRORS.items():
            for row in field_rows(fields):
                with self.subTest(name, row=row):
                    self.check_fields(getattr(errors, name)(*row), fields, row)

    def test_made_by_name(self):
        for name, (_, fields) in ERRORS.items():
            for row in field_rows(fields):
                with self.subTest(name, row=row):
                    self.check_fields(getattr(errors, name)(**dict(zip(fields, row))), fields, row)

    def test_names_in_any_order_and_behind_a_position(self):
        for error in (errors.InvalidLine(index=2, line=1), errors.InvalidLine(1, index=2)):
            self.assertEqual((error.line, error.index), (1, 2))
        for error in (errors.Forked(line=3, word="ann"), errors.Forked("ann", line=3)):
            self.assertEqual((error.word, error.line), ("ann", 3))

    def test_raised_and_caught_with_its_fields(self):
        for name, (base, fields) in ERRORS.items():
            row = (["ann"], ("bob",))[:len(fields)]
            with self.subTest(name):
                with self.assertRaises(base) as caught:
                    raise getattr(errors, name)(*row)
                self.assertIs(type(caught.exception), getattr(errors, name))
                self.check_fields(caught.exception, fields, row)

    def test_other_numbers_of_fields_make_no_error(self):
        for name, (_, fields) in ERRORS.items():
            with self.subTest(name):
                with self.assertRaises(TypeError):
                    getattr(errors, name)(*["x"] * (len(fields) + 1))
                if fields:
                    with self.assertRaises(TypeError):
                        getattr(errors, name)(*["x"] * (len(fields) - 1))

    def check_fields(self, error, fields, row):
        self.assertEqual(set(vars(error)), set(fields))
        for field, value in zip(fields, row):
            self.assertIs(getattr(error, field), value)
