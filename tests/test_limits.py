"""Section 11: the limits."""

import unittest

from namechains.limits import (
    LIMIT, MAX_ASKED, MAX_CHAINS, MAX_LETTERS, MAX_NAMES, MAX_STATEMENTS, MAX_TIMES,
)


class Limits(unittest.TestCase):
    def test_values(self):
        self.assertEqual(LIMIT, 1_000_000_000_000_000_000_000_000_000_000)
        self.assertEqual(MAX_LETTERS, 8)
        self.assertEqual(MAX_NAMES, 4)
        self.assertEqual(MAX_ASKED, 8)
        self.assertEqual(MAX_STATEMENTS, 24)
        self.assertEqual(MAX_CHAINS, 4)
        self.assertEqual(MAX_TIMES, 9)

    def test_kinds(self):
        for limit in (LIMIT, MAX_LETTERS, MAX_NAMES, MAX_ASKED, MAX_STATEMENTS, MAX_CHAINS, MAX_TIMES):
            self.assertIs(type(limit), int)
