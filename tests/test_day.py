"""[13], [14]: Day, and the days on which other statements hold; [2] as far as it speaks of them."""

import unittest

from namechains.books import Book, Day
from namechains.errors import InvalidDay
from namechains.limits import LIMIT
from namechains.statements import Leave, Naming
from tests import samples
from tests.oracles import are_plain

WRONG_DAYS = [None, True, False, -1, -LIMIT, LIMIT + 1, 10 ** 59, "", "0", "7", (), (0,), (0, 9), [], [0], {}, {0: 0}]


def naming(name, days=None):
    return Naming("ann", name, ("bob",), days)


def leave(days=None, tags=(1, 2)):
    return Leave("ann", ("bob",), tags, days)


BOOK = Book(naming("a", (3, 9)), leave((5, 7)), naming("b"), leave(), naming("c", (9, 9)), naming("d", (0, 4)),
            leave((LIMIT, LIMIT)))


class Days(unittest.TestCase):
    def check(self, book, number, namings, leaves):
        for day in (book.on(number), book.on(day=number)):
            self.assertIs(type(day), Day)
            self.assertEqual(day.number, number)
            self.assertIs(type(day.number), int)
            self.assertEqual(day.book, book)
            self.assertEqual((day.namings, day.leaves), (namings, leaves))
            self.assertTrue(are_plain(day.namings, day.leaves))
            self.assertIs(type(day.namings), tuple)
            self.assertIs(type(day.leaves), tuple)

    def test_ends_of_stretches_and_beside(self):
        self.check(BOOK, 0, (2, 5), (3,))
        self.check(BOOK, 2, (2, 5), (3,))
        self.check(BOOK, 3, (0, 2, 5), (3,))
        self.check(BOOK, 4, (0, 2, 5), (3,))
        self.check(BOOK, 5, (0, 2), (1, 3))
        self.check(BOOK, 7, (0, 2), (1, 3))
        self.check(BOOK, 8, (0, 2), (3,))
        self.check(BOOK, 9, (0, 2, 4), (3,))
        self.check(BOOK, 10, (2,), (3,))
        self.check(BOOK, LIMIT - 1, (2,), (3,))
        self.check(BOOK, LIMIT, (2,), (3, 6))

    def test_a_book_without_statements(self):
        self.check(Book(), 0, (), ())
        self.check(Book(), LIMIT, (), ())

    def test_tags_are_no_days(self):
        self.check(Book(leave((5, 7), (0, LIMIT))), 4, (), ())
        self.check(Book(leave((5, 7), (0, 0))), 5, (), (0,))

    def test_wrong_days(self):
        for book in (Book(), BOOK):
            for value in [*WRONG_DAYS, *[one for one in samples.ANY_VALUES if type(one) is not int]]:
                with self.subTest(value=value):
                    with self.assertRaises(InvalidDay) as caught:
                        book.on(value)
                    self.assertIs(type(caught.exception), InvalidDay)
                    self.assertIs(caught.exception.value, value)


class EqualDays(unittest.TestCase):
    def check(self, one, other, are_equal):
        for left, right in ((one, other), (other, one)):
            self.assertIs(left == right, are_equal)
            self.assertIs(left != right, not are_equal)

    def test_equal_ones(self):
        self.check(BOOK.on(4), BOOK.on(4), True)
        self.check(BOOK.on(4), Book(*BOOK.statements).on(4), True)
        self.check(Book().on(0), Book().on(0), True)

    def test_other_numbers_of_one_book(self):
        self.check(BOOK.on(4), BOOK.on(3), False)
        self.check(BOOK.on(1), BOOK.on(2), False)
        self.check(Book().on(0), Book().on(LIMIT), False)

    def test_one_number_of_unlike_books(self):
        self.check(BOOK.on(4), BOOK.without(0).on(4), False)
        self.check(Book(naming("a", (0, 1))).on(5), Book().on(5), False)
        self.check(Book(naming("a"), naming("b")).on(5), Book(naming("b"), naming("a")).on(5), False)

    def test_values_of_another_kind(self):
        for other in [4, (BOOK, 4), BOOK, BOOK[0], BOOK.on(4).namings, *samples.ANY_VALUES]:
            with self.subTest(other=other):
                self.check(BOOK.on(4), other, False)


class Changes(unittest.TestCase):
    def check(self, expected, *stretches):
        """The same for Namings and for Leaves, told forwards and backwards."""
        for book in (
            Book(*[naming(letter, days) for letter, days in zip("abcdefgh", stretches)]),
            Book(*[leave(days, (at, at)) for at, days in enumerate(stretches)][::-1]),
        ):
            self.assertEqual(book.changes(), expected)
            self.assertIs(type(book.changes()), tuple)
            self.assertTrue(are_plain(book.changes()))

    def test_the_empty_book(self):
        self.check((0,))

    def test_all_days(self):
        self.check((0,), None)
        self.check((0,), None, (0, LIMIT), None)

    def test_ends(self):
        self.check((0, 3, 10), (3, 9))
        self.check((0, 3, 10), None, (3, 9))
        self.check((0, 10), (0, 9))
        self.check((0, 3), (3, LIMIT))
        self.check((0, 1), (0, 0))
        self.check((0, 1), (1, LIMIT))
        self.check((0, 1, 2), (1, 1))
        self.check((0, LIMIT), (LIMIT, LIMIT))
        self.check((0, LIMIT), (0, LIMIT - 1))
        self.check((0, LIMIT - 1, LIMIT), (LIMIT - 1, LIMIT - 1))

    def test_several(self):
        self.check((0, 3, 10, 20), (3, 9), (10, 19))
        self.check((0, 3, 10, 11, 20), (3, 9), (11, 19))
        self.check((0, 3, 5, 10, 20), (3, 9), (5, 19))
        self.check((0, 3, 5, 8, 10), (3, 9), (5, 7))
        self.check((0, 3, 10), (3, 9), (3, 9))
        self.check((0, 3, 7, 10), (3, 9), (3, 6), (7, 9))
        self.check((0, 5, LIMIT), (0, 4), (5, LIMIT - 1), (LIMIT, LIMIT))
        self.check((0, 1, 2, 3, 4), (0, 0), (1, 1), (2, 2), (3, 3))

    def test_an_equal_stretch_of_another_statement_follows(self):
        book = Book(Naming("ann", "x", ("bob",), (0, 4)), Naming("ann", "x", ("bob",), (5, 9)))
        self.assertEqual(book.changes(), (0, 5, 10))
        book = Book(naming("a", (0, 4)), leave((5, LIMIT)))
        self.assertEqual(book.changes(), (0, 5))

    def test_namings_and_leaves_together(self):
        self.assertEqual(BOOK.changes(), (0, 3, 5, 8, 9, 10, LIMIT))
