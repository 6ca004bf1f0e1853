"""What the tests of several modules check alike."""

import unittest

from namechains.languages import Names
from tests import oracles


class PlainCase(unittest.TestCase):
    def same(self, found, expected):
        """Equal, also in the kinds of all parts."""
        self.assertEqual(found, expected)
        self.assertIs(type(found), type(expected))
        self.assertTrue(oracles.are_plain(found))

    def check_error(self, error, name, value, action):
        """The call raises just this error, which keeps the value under this name."""
        with self.assertRaises(error) as caught:
            action()
        self.assertIs(type(caught.exception), error)
        self.assertIs(type(getattr(caught.exception, name)), type(value))
        self.assertEqual(getattr(caught.exception, name), value)

    def check_listed(self, names, chains):
        """The set is finite and has these chains alone."""
        self.assertIsInstance(names, Names)
        self.same(list(names.ordered()), oracles.in_order(set(chains)))
