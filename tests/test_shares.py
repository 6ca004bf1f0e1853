"""[61], [65]: persons of their own for several chains, or why there are none, for all small rows."""

import itertools
import random
import unittest

from namechains.shares import cover_of, matched
from tests.right_oracles import have_own

ROWS = [None, [], ["a"], ["b"], ["a", "b"], ["b", "c"], ["c", "a"], ["a", "b", "c"], ["d", "a", "c", "b"]]


def some_rows():
    """All rows of up to three chains, and many of four."""
    for count in (1, 2, 3):
        yield from itertools.product(ROWS, repeat=count)
    source = random.Random(161)
    yield from [tuple(source.choice(ROWS) for _ in range(4)) for _ in range(1500)]


class Shares(unittest.TestCase):
    def check_matched(self, rows, many, found):
        self.assertEqual(len(found), many)
        numbers = [number for number, _ in found]
        self.assertEqual(numbers, sorted(set(numbers)))
        persons = [person for number, person in found if rows[number] is not None]
        self.assertEqual(len(set(persons)), len(persons))
        for number, person in found:
            self.assertTrue(person is None if rows[number] is None else person in rows[number])
        # New persons are taken only if there are not enough others.
        if len(persons) < many:
            self.assertFalse(have_own([row or [] for row in rows], len(persons) + 1))

    def check_cover(self, rows, many, turn):
        numbers, persons = cover_of(list(rows), many, turn)
        self.assertEqual(list(numbers), sorted(set(numbers)))
        self.assertEqual(list(persons), sorted(set(persons)))
        self.assertLess(len(numbers) + len(persons), many)
        self.assertTrue(set(numbers) <= set(range(len(rows))))
        for number, row in enumerate(rows):
            if number not in numbers:
                self.assertTrue(row is not None and set(row) <= set(persons))
        # No cover has more numbers.
        for more in itertools.combinations(range(len(rows)), len(numbers) + 1):
            others = [row for number, row in enumerate(rows) if number not in more]
            if None not in others:
                self.assertGreaterEqual(len(more) + len({person for row in others for person in row}), many)

    def test_either_persons_or_a_cover(self):
        for rows in some_rows():
            for many in range(1, len(rows) + 1):
                own = [[f"new{number}"] if row is None else row for number, row in enumerate(rows)]
                found = matched(list(rows), many)
                covers = [cover_of(list(rows), many, turn) for turn in range(4)]
                if have_own(own, many):
                    self.check_matched(rows, many, found)
                    self.assertEqual(covers, [None] * 4)
                else:
                    self.assertIsNone(found)
                    for turn in range(4):
                        self.check_cover(rows, many, turn)

    def test_turns_tell_other_numbers(self):
        rows = [[], [], [], []]
        self.assertEqual({cover_of(rows, 2, turn) for turn in range(4)}, {((number,), ()) for number in range(4)})
        self.assertEqual({cover_of(rows, 3, turn)[0] for turn in (0, 2)}, {(0, 1), (2, 3)})
