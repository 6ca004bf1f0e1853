"""[12]: Book, its properties, its errors, what is longer and shorter; [2] as far as it speaks of them."""

import unittest

from namechains.books import Book
from namechains.errors import InvalidStatement, OutOfRange, Repeated, TooMany
from namechains.limits import LIMIT
from namechains.statements import Leave, Naming
from tests import samples
from tests.oracles import are_plain

DOCTOR = Naming("ann", "doctor", ("bob", "office"))
CHILD = Naming("bob", "child", ("dan",), (0, 9))
LATER = Naming("bob", "child", ("dan",), (10, 19))
LEAVE = Leave("eve", ("ann", "doctor"), (10, 20), (0, 9), 1)
SHARED = Leave("eve", (2, (("fay", "aunt"), ("gus",), ("ann", "uncle", "child"))), (0, 5))

# Twenty-six statements, all unlike.
MANY = [Naming("ann", letter, ("bob",)) for letter in "abcdefghijklmnopqrstuvwxyz"]

NOT_STATEMENTS = [*samples.ANY_VALUES, DOCTOR.text, LEAVE.text, ("ann", "doctor", ("bob",)), [DOCTOR], (DOCTOR,),
                  {"ann": DOCTOR}, Book(), Book(DOCTOR), Naming, Leave]

NOT_INDEXES = [None, True, False, -1, -2, LIMIT, -LIMIT, "", "0", "1", (), (0,), [], [0], {}, {0: 0}]


def again(statement):
    """An equal statement that is another object."""
    if isinstance(statement, Naming):
        return Naming(statement.person, statement.name, statement.chain, statement.days)
    return Leave(statement.person, statement.subject, statement.tags, statement.days, statement.times)


class BookCase(unittest.TestCase):
    def check_error(self, error, fields, action):
        with self.assertRaises(error) as caught:
            action()
        self.assertIs(type(caught.exception), error)
        for name, value in fields.items():
            found = getattr(caught.exception, name)
            self.assertEqual(found, value)
            self.assertIs(type(found), type(value))

    def check_book(self, book, *statements):
        self.assertIs(type(book), Book)
        self.assertIs(type(book.statements), tuple)
        self.assertEqual(book.statements, statements)
        self.assertEqual(len(book), len(statements))
        for at, statement in enumerate(statements):
            self.assertEqual(book[at], statement)


class RightBooks(BookCase):
    def test_none_one_and_twenty_four(self):
        self.check_book(Book())
        self.check_book(Book(DOCTOR), DOCTOR)
        self.check_book(Book(LEAVE), LEAVE)
        self.check_book(Book(*MANY[:24]), *MANY[:24])

    def test_the_order_stays(self):
        self.check_book(Book(LEAVE, DOCTOR, CHILD), LEAVE, DOCTOR, CHILD)
        self.check_book(Book(CHILD, DOCTOR, LEAVE), CHILD, DOCTOR, LEAVE)

    def test_statements_that_differ_in_one_part_are_unlike(self):
        self.check_book(Book(CHILD, LATER), CHILD, LATER)
        one = Leave("ann", ("bob",), (1, 2))
        other = Leave("ann", ("bob",), (1, 2), None, 9)
        self.check_book(Book(one, other), one, other)
        like = (Naming("ann", "x", ("bob",), (1, 2)), Leave("ann", ("bob",), (1, 2), (1, 2)))
        self.check_book(Book(*like), *like)

    def test_persons(self):
        self.assertEqual(Book().persons, ())
        self.assertEqual(Book(DOCTOR).persons, ("ann", "bob"))
        self.assertEqual(Book(CHILD, LEAVE).persons, ("ann", "bob", "dan", "eve"))
        self.assertEqual(Book(SHARED).persons, ("ann", "eve", "fay", "gus"))
        self.assertEqual(Book(SHARED, CHILD, DOCTOR).persons, ("ann", "bob", "dan", "eve", "fay", "gus"))
        self.assertEqual(Book(Naming("z", "y", ("z", "x")), Naming("aa", "y", ("a",))).persons, ("a", "aa", "z"))

    def test_names(self):
        self.assertEqual(Book().names, ())
        self.assertEqual(Book(DOCTOR).names, ("doctor", "office"))
        self.assertEqual(Book(Naming("ann", "z", ("bob", "y", "x", "y", "a"))).names, ("a", "x", "y", "z"))
        self.assertEqual(Book(LEAVE).names, ("doctor",))
        self.assertEqual(Book(Leave("ann", ("bob",), (0, 1))).names, ())
        self.assertEqual(Book(SHARED).names, ("aunt", "child", "uncle"))
        self.assertEqual(Book(SHARED, DOCTOR, CHILD).names, ("aunt", "child", "doctor", "office", "uncle"))

    def test_words_that_are_persons_and_names(self):
        book = Book(Naming("ann", "bob", ("bob", "ann")), Leave("cy", (1, (("dan", "cy"), ("bob", "dan"))), (0, 0)))
        self.assertEqual(book.persons, ("ann", "bob", "cy", "dan"))
        self.assertEqual(book.names, ("ann", "bob", "cy", "dan"))

    def test_words_of_all_days(self):
        book = Book(Naming("ann", "x", ("bob", "y"), (LIMIT, LIMIT)), Leave("cy", ("dan", "z"), (0, 0), (0, 0)))
        self.assertEqual(book.persons, ("ann", "bob", "cy", "dan"))
        self.assertEqual(book.names, ("x", "y", "z"))

    def test_kinds(self):
        book = Book(SHARED, CHILD, DOCTOR)
        for row in (book.persons, book.names):
            self.assertIs(type(row), tuple)
            self.assertTrue(are_plain(row))
        self.assertIs(type(len(book)), int)

    def test_statements_by_index(self):
        book = Book(DOCTOR, LEAVE, CHILD)
        self.assertEqual([book[0], book[1], book[2]], [DOCTOR, LEAVE, CHILD])
        full = Book(*MANY[:24])
        self.assertEqual([full[0], full[23]], [MANY[0], MANY[23]])

    def test_wrong_indexes(self):
        for book in (Book(), Book(DOCTOR), Book(DOCTOR, LEAVE, CHILD), Book(*MANY[:24])):
            for value in [*NOT_INDEXES, len(book), len(book) + 1, -len(book) - 1]:
                with self.subTest(len=len(book), value=value):
                    self.check_error(OutOfRange, {"value": value}, lambda: book[value])
        for value in [value for value in samples.ANY_VALUES if type(value) is not int]:
            self.check_error(OutOfRange, {"value": value}, lambda: Book(DOCTOR, LEAVE)[value])


class WrongBooks(BookCase):
    def test_values_that_are_no_statements(self):
        for value in NOT_STATEMENTS:
            with self.subTest(value=value):
                self.check_error(InvalidStatement, {"index": 0}, lambda: Book(value))
                self.check_error(InvalidStatement, {"index": 1}, lambda: Book(DOCTOR, value))
                self.check_error(InvalidStatement, {"index": 2}, lambda: Book(DOCTOR, LEAVE, value, CHILD, value))

    def test_more_than_twenty_four(self):
        self.check_error(TooMany, {"limit": 24}, lambda: Book(*MANY[:25]))
        self.check_error(TooMany, {"limit": 24}, lambda: Book(*MANY[:26]))

    def test_equal_ones(self):
        self.check_error(Repeated, {"index": 1}, lambda: Book(DOCTOR, DOCTOR))
        self.check_error(Repeated, {"index": 1}, lambda: Book(DOCTOR, again(DOCTOR)))
        self.check_error(Repeated, {"index": 2}, lambda: Book(DOCTOR, LEAVE, again(LEAVE), again(DOCTOR)))
        self.check_error(Repeated, {"index": 3}, lambda: Book(DOCTOR, LEAVE, CHILD, again(DOCTOR), again(LEAVE)))
        self.check_error(Repeated, {"index": 23}, lambda: Book(*MANY[:23], again(MANY[22])))

    def test_all_days_told_in_two_ways_are_equal(self):
        self.check_error(
            Repeated, {"index": 1}, lambda: Book(Naming("ann", "x", ("b",)), Naming("ann", "x", ("b",), (0, LIMIT))))

    def test_the_order_of_errors(self):
        self.check_error(InvalidStatement, {"index": 2}, lambda: Book(DOCTOR, DOCTOR, None))
        self.check_error(InvalidStatement, {"index": 25}, lambda: Book(*MANY[:24], MANY[0], None))
        self.check_error(InvalidStatement, {"index": 24}, lambda: Book(*MANY[:24], DOCTOR.text))
        self.check_error(TooMany, {"limit": 24}, lambda: Book(DOCTOR, DOCTOR, *MANY[:23]))
        self.check_error(TooMany, {"limit": 24}, lambda: Book(*MANY[:24], MANY[23]))


class LongerBooks(BookCase):
    def test_statements_behind_its_own(self):
        book = Book(DOCTOR, LEAVE)
        self.check_book(book.with_more(CHILD), DOCTOR, LEAVE, CHILD)
        self.check_book(book.with_more(SHARED, CHILD, LATER), DOCTOR, LEAVE, SHARED, CHILD, LATER)
        self.check_book(book.with_more(), DOCTOR, LEAVE)
        self.check_book(Book().with_more(), )
        self.check_book(Book().with_more(CHILD, DOCTOR), CHILD, DOCTOR)
        self.check_book(Book(*MANY[:20]).with_more(*MANY[20:24]), *MANY[:24])
        self.check_book(book, DOCTOR, LEAVE)
        self.assertEqual(book.with_more(SHARED).persons, ("ann", "bob", "eve", "fay", "gus"))
        self.assertEqual(book.persons, ("ann", "bob", "eve"))

    def test_values_that_are_no_statements(self):
        book = Book(DOCTOR, LEAVE)
        for value in NOT_STATEMENTS:
            with self.subTest(value=value):
                self.check_error(InvalidStatement, {"index": 0}, lambda: book.with_more(value))
                self.check_error(InvalidStatement, {"index": 1}, lambda: book.with_more(CHILD, value, value))
        self.check_book(book, DOCTOR, LEAVE)

    def test_more_than_twenty_four(self):
        full = Book(*MANY[:24])
        self.check_error(TooMany, {"limit": 24}, lambda: full.with_more(MANY[24]))
        self.check_error(TooMany, {"limit": 24}, lambda: Book(*MANY[:23]).with_more(MANY[23], MANY[24]))
        self.check_error(TooMany, {"limit": 24}, lambda: Book().with_more(*MANY[:25]))
        self.check_error(TooMany, {"limit": 24}, lambda: Book(DOCTOR).with_more(*MANY[:24]))
        self.check_book(full.with_more(), *MANY[:24])
        self.check_book(full, *MANY[:24])

    def test_equal_ones(self):
        book = Book(DOCTOR, LEAVE)
        self.check_error(Repeated, {"index": 0}, lambda: book.with_more(again(DOCTOR)))
        self.check_error(Repeated, {"index": 0}, lambda: book.with_more(again(LEAVE), again(DOCTOR)))
        self.check_error(Repeated, {"index": 1}, lambda: book.with_more(CHILD, again(LEAVE)))
        self.check_error(Repeated, {"index": 1}, lambda: book.with_more(CHILD, again(CHILD), again(LEAVE)))
        self.check_error(Repeated, {"index": 2}, lambda: book.with_more(CHILD, LATER, again(CHILD)))
        self.check_book(book, DOCTOR, LEAVE)

    def test_the_order_of_errors(self):
        full = Book(*MANY[:24])
        self.check_error(InvalidStatement, {"index": 2}, lambda: full.with_more(MANY[0], MANY[24], "x"))
        self.check_error(InvalidStatement, {"index": 1}, lambda: Book(DOCTOR).with_more(DOCTOR, ()))
        self.check_error(TooMany, {"limit": 24}, lambda: full.with_more(MANY[0]))
        self.check_error(TooMany, {"limit": 24}, lambda: Book(*MANY[:23]).with_more(MANY[0], MANY[0]))


class BooksPutTogether(BookCase):
    # Alike but for their days; and statements of both kinds with words that come early and late.
    DAYS = [Naming("ann", "x", ("bob", "x", "y"), (number, LIMIT)) for number in range(24)]
    KINDS = [Naming(chr(122 - at), chr(97 + at), ("m", chr(122 - at) + "o"), (at, at)) if at % 2 else
             Leave(chr(97 + at), (1, (("m" * (at // 3 + 1), chr(98 + at) + "n"), ("bob",))), (0, at)) for at in range(24)]

    def check_like(self, book, statements):
        """The book is the one that Book makes of all statements at once."""
        at_once = Book(*statements)
        self.check_book(book, *statements)
        self.assertEqual((book.persons, book.names), (at_once.persons, at_once.names))
        self.assertTrue(are_plain(book.persons, book.names))
        self.assertIs(book == at_once, True)
        self.assertIs(at_once == book, True)
        self.assertEqual(book.changes(), at_once.changes())
        self.assertEqual(book.on(5), at_once.on(5))
        self.assertEqual((book.on(5).namings, book.on(5).leaves), (at_once.on(5).namings, at_once.on(5).leaves))

    def test_one_statement_at_a_time(self):
        for statements in (self.DAYS, self.KINDS, self.KINDS[::-1], MANY[:24]):
            book = Book()
            for many, statement in enumerate(statements, start=1):
                longer = book.with_more(statement)
                self.check_like(longer, statements[:many])
                self.check_like(book, statements[:many - 1])
                book = longer
            self.check_error(TooMany, {"limit": 24}, lambda: book.with_more(DOCTOR))
            self.check_error(TooMany, {"limit": 24}, lambda: book.with_more(statements[0]))

    def test_several_at_a_time(self):
        book = Book(*self.KINDS[:5])
        for first, last in ((5, 5), (5, 9), (9, 10), (10, 24)):
            book = book.with_more(*self.KINDS[first:last])
            self.check_like(book, self.KINDS[:last])

    def test_each_earlier_one_is_known(self):
        for statements in (self.DAYS, self.KINDS):
            book = Book()
            for many, statement in enumerate(statements[:23], start=1):
                book = book.with_more(statement)
                for earlier in statements[:many]:
                    self.check_error(Repeated, {"index": 0}, lambda: book.with_more(again(earlier)))

    def test_from_shorter_books(self):
        book = Book(*self.KINDS).without(3, 0, 23).with_more(self.KINDS[0]).with_more(DOCTOR)
        self.check_like(book, [*self.KINDS[1:3], *self.KINDS[4:23], self.KINDS[0], DOCTOR])
        self.check_error(Repeated, {"index": 0}, lambda: book.without(1).with_more(again(DOCTOR)))
        self.check_like(book.without(1).with_more(book[1]), [book[0], *book.statements[2:], book[1]])


class ShorterBooks(BookCase):
    def test_without(self):
        book = Book(DOCTOR, LEAVE, CHILD, LATER)
        self.check_book(book.without(), DOCTOR, LEAVE, CHILD, LATER)
        self.check_book(book.without(0), LEAVE, CHILD, LATER)
        self.check_book(book.without(3), DOCTOR, LEAVE, CHILD)
        self.check_book(book.without(1, 2), DOCTOR, LATER)
        self.check_book(book.without(2, 0), LEAVE, LATER)
        self.check_book(book.without(3, 1, 0), CHILD)
        self.check_book(book.without(0, 1, 2, 3), )
        self.check_book(book.without(2, 3, 1, 0), )
        self.check_book(Book().without(), )
        self.check_book(book, DOCTOR, LEAVE, CHILD, LATER)

    def test_wrong_indexes(self):
        for book in (Book(), Book(DOCTOR), Book(DOCTOR, LEAVE, CHILD)):
            for value in [*NOT_INDEXES, len(book), len(book) + 1]:
                with self.subTest(len=len(book), value=value):
                    self.check_error(OutOfRange, {"value": value}, lambda: book.without(value))
        for value in [value for value in samples.ANY_VALUES if type(value) is not int]:
            self.check_error(OutOfRange, {"value": value}, lambda: Book(DOCTOR).without(0, value))

    def test_the_first_wrong_one_is_told(self):
        book = Book(DOCTOR, LEAVE, CHILD)
        self.check_error(OutOfRange, {"value": 3}, lambda: book.without(0, 3, -1))
        self.check_error(OutOfRange, {"value": -1}, lambda: book.without(0, -1, 3))
        self.check_error(OutOfRange, {"value": True}, lambda: book.without(0, True, 1, 1))
        self.check_error(OutOfRange, {"value": 1}, lambda: book.without(1, 0, 1, 9))
        self.check_error(OutOfRange, {"value": True}, lambda: book.without(1, True))
        self.check_error(OutOfRange, {"value": 0}, lambda: book.without(0, 0))
        self.check_error(OutOfRange, {"value": 2}, lambda: book.without(0, 2, 2, 0))
        self.check_error(OutOfRange, {"value": "0"}, lambda: book.without("0", "0"))
        self.check_book(book, DOCTOR, LEAVE, CHILD)


class EqualBooks(unittest.TestCase):
    def check(self, one, other, are_equal):
        for left, right in ((one, other), (other, one)):
            self.assertIs(left == right, are_equal)
            self.assertIs(left != right, not are_equal)

    def test_equal_ones(self):
        self.check(Book(), Book(), True)
        self.check(Book(DOCTOR, LEAVE), Book(again(DOCTOR), again(LEAVE)), True)
        self.check(Book(DOCTOR).with_more(CHILD, LEAVE), Book(DOCTOR, CHILD, LEAVE), True)
        self.check(Book(DOCTOR, SHARED, CHILD, LEAVE).without(1), Book(DOCTOR, CHILD, LEAVE), True)
        self.check(Book(CHILD, DOCTOR).without(0).with_more(CHILD), Book(DOCTOR, CHILD), True)
        self.check(Book(DOCTOR).without(0), Book(), True)
        book = Book(DOCTOR, LEAVE)
        self.check(book, book, True)

    def test_unequal_ones(self):
        self.check(Book(DOCTOR, LEAVE), Book(LEAVE, DOCTOR), False)
        self.check(Book(DOCTOR, LEAVE), Book(DOCTOR), False)
        self.check(Book(DOCTOR, LEAVE), Book(LEAVE), False)
        self.check(Book(DOCTOR, LEAVE), Book(DOCTOR, LEAVE, CHILD), False)
        self.check(Book(CHILD), Book(LATER), False)
        self.check(Book(), Book(DOCTOR), False)

    def test_values_of_another_kind(self):
        for book in (Book(), Book(DOCTOR), Book(DOCTOR, LEAVE)):
            others = [book.statements, list(book.statements), DOCTOR, DOCTOR.text, book.on(0), *samples.ANY_VALUES]
            for other in others:
                with self.subTest(len=len(book), other=other):
                    self.check(book, other, False)
