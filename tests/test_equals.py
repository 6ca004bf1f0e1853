"""[46], [47]: namings that others tell already, days that tell the same; [2] as far as it speaks of them."""

import itertools
import random

from namechains.books import Book
from namechains.equals import alike, lean, needless, needless_now, told_apart
from namechains.limits import LIMIT
from namechains.meaning import table_of
from namechains.rewriting import comes_of, meanings
from namechains.statements import Leave, Naming
from tests import oracles
from tests.cases import PlainCase

# Some namings of these books hold on the asked day, some do not.
SMALL_BOOKS = oracles.random_books(51, 60, days=[None, None, (0, 9), (5, 9), (0, 4)], names=("x", "y"))

# A Leave and a naming of another day between namings that tell the same.
MIXED = Book(Leave("ann", ("bob",), (0, 9)), Naming("ann", "x", ("bob", "y")), Naming("bob", "y", ("cy",)),
             Naming("ann", "x", ("cy",), (5, 9)), Naming("ann", "x", ("cy",)), Leave("bob", ("ann",), (0, 9)),
             Naming("ann", "x", ("cy",), (0, 9)))


def is_needless(book, index, number):
    """[46]: its chain comes of its person and name by the other namings of the day."""
    one = book[index]
    return comes_of(book.without(index).on(number), (one.person, one.name), one.chain)


class Needless(PlainCase):
    def check(self, book, number, for_all, for_now, left):
        day = book.on(number)
        self.same(needless(day), for_all)
        self.same(needless(day=day), for_all)
        self.same(needless_now(day), for_now)
        self.same(needless_now(day=day), for_now)
        self.same(lean(day), left)
        self.same(lean(day=day), left)

    def test_no_namings(self):
        self.check(Book(), 0, (), (), ())
        self.check(Book(Leave("ann", ("bob",), (0, 9))), 0, (), (), ())
        self.check(Book(Naming("ann", "x", ("bob",), (3, 9))), 2, (), (), ())

    def test_all_are_needed(self):
        self.check(Book(Naming("ann", "x", ("bob",)), Naming("bob", "x", ("cy",))), 0, (), (), (0, 1))

    def test_told_by_others(self):
        self.check(MIXED, 0, (4, 6), (1, 4, 6), (1, 2))
        self.check(MIXED, 7, (3, 4, 6), (1, 3, 4, 6), (1, 2))
        self.check(MIXED, 10, (4,), (1, 4), (1, 2))
        book = Book(Naming("ann", "x", ("cy",)), Naming("bob", "y", ("cy",)), Naming("ann", "x", ("bob", "y")))
        self.check(book, 0, (0,), (0, 2), (1, 2))

    def test_one_naming_twice_with_other_days(self):
        book = Book(Naming("ann", "x", ("bob",), (0, 5)), Naming("ann", "x", ("bob",), (3, 9)))
        self.check(book, 2, (), (), (0,))
        self.check(book, 3, (0, 1), (0, 1), (0,))
        self.check(book, 5, (0, 1), (0, 1), (0,))
        self.check(book, 6, (), (), (1,))
        self.check(book, 10, (), (), ())
        book = book.with_more(Naming("ann", "x", ("bob",), (4, LIMIT)))
        self.check(book, 5, (0, 1, 2), (0, 1, 2), (0,))

    def test_circles(self):
        self.check(Book(Naming("ann", "x", ("ann", "x"))), 0, (0,), (0,), ())
        book = Book(Naming("ann", "x", ("bob", "x")), Naming("bob", "x", ("ann", "x")))
        self.check(book, 0, (), (0, 1), (0, 1))
        # Each of three persons who call one another is told by way of the third one.
        circle = [Naming(one, "x", (other, "x")) for one, other in itertools.permutations(("ann", "bob", "cy"), 2)]
        day = Book(*circle).on(0)
        self.same(needless(day), (0, 1, 2, 3, 4, 5))
        self.same(needless_now(day), (0, 1, 2, 3, 4, 5))
        self.same(lean(day), tuple(self.lean_by_hand(day.book, 0)))
        book = Book(Naming("ann", "x", ("bob", "x")), Naming("bob", "x", ("ann", "x")), Naming("ann", "x", ("cy",)),
                    Naming("bob", "x", ("cy",)))
        self.check(book, 0, (2, 3), (0, 1, 2, 3), (0, 1, 2))

    def test_chains_that_come_by_growing(self):
        book = Book(Naming("ann", "x", ("ann", "x", "x")), Naming("ann", "x", ("ann", "x", "x", "x", "x")),
                    Naming("ann", "x", ("ann",)))
        self.check(book, 0, (0, 1), (0, 1), (0, 2))
        book = Book(Naming("ann", "x", ("bob", "y", "y")), Naming("bob", "y", ("bob",)), Naming("ann", "x", ("bob", "y")),
                    Naming("ann", "x", ("bob",)))
        self.check(book, 0, (2, 3), (0, 2, 3), (0, 1))

    def test_bare_chains_of_a_name(self):
        book = Book(Naming("ann", "x", ("bob",)), Naming("ann", "y", ("bob",)), Naming("ann", "z", ("ann", "x")),
                    Naming("ann", "z", ("ann", "y")), Naming("ann", "z", ("bob",)))
        self.check(book, 0, (4,), (2, 3, 4), (0, 1, 2, 3))

    def lean_by_hand(self, book, number):
        """From the last naming to the first, each one that is needless among those that are left goes."""
        left = list(book.on(number).namings)
        for index in left[::-1]:
            rest = [other for other in left if other != index]
            one = book[index]
            if comes_of(Book(*[book[other] for other in rest]).on(number), (one.person, one.name), one.chain):
                left = rest
        return left

    def test_small_books(self):
        for book, number in itertools.product(SMALL_BOOKS, (0, 5)):
            day = book.on(number)
            for_all = [index for index in day.namings if is_needless(book, index, number)]
            for_now = [index for index in day.namings if table_of(book.without(index).on(number)) == table_of(day)]
            self.check(book, number, tuple(for_all), tuple(for_now), tuple(self.lean_by_hand(book, number)))
            self.assertLessEqual(set(for_all), set(for_now))


class Alike(PlainCase):
    def check(self, one, other, expected):
        for found in (alike(one, other), alike(one=one, other=other)):
            if expected is None:
                self.assertIsNone(found)
            else:
                self.same(found, expected)

    def test_equal_days(self):
        for book in (Book(), MIXED):
            for number in (0, 7, LIMIT):
                self.check(book.on(number), book.on(number), None)
                self.check(book.on(number), Book(*book.statements[::-1]).on(number), None)

    def test_days_of_one_book(self):
        book = Book(Naming("ann", "x", ("bob",), (0, 4)), Leave("ann", ("bob",), (0, 1)), Naming("ann", "x", ("cy",)),
                    Naming("ann", "x", ("bob",), (5, 7)))
        self.check(book.on(0), book.on(4), None)
        self.check(book.on(0), book.on(5), None)
        self.check(book.on(5), book.on(0), None)
        self.check(book.on(0), book.on(8), (0, 0))
        self.check(book.on(8), book.on(0), (1, 0))
        self.check(book.on(6), book.on(8), (0, 3))
        self.check(book.on(8), book.on(6), (1, 3))
        self.check(MIXED.on(0), MIXED.on(7), None)
        self.check(MIXED.on(7), MIXED.on(10), None)

    def test_days_of_two_books(self):
        one = Book(Naming("ann", "x", ("bob", "y")), Naming("bob", "y", ("cy",)))
        other = Book(Leave("ann", ("bob",), (0, 1)), Naming("bob", "y", ("cy",)), Naming("ann", "x", ("cy",)),
                     Naming("ann", "x", ("bob", "y")))
        self.check(one.on(0), other.on(9), None)
        self.check(other.on(9), one.on(0), None)
        self.check(one.on(0), other.without(1).on(0), (0, 1))
        self.check(other.without(1).on(0), one.on(0), (1, 1))
        self.check(one.on(0), other.without(3).on(0), (0, 0))
        self.check(other.without(3).on(0), one.on(0), (1, 0))
        self.check(Book().on(0), one.on(0), (1, 0))
        self.check(one.on(0), Book().on(0), (0, 0))
        self.check(Book().on(0), Book().on(LIMIT), None)
        self.check(Book(Naming("ann", "x", ("ann", "x"))).on(0), Book().on(3), None)

    def test_the_same_meanings_are_not_enough(self):
        one = Book(Naming("ann", "x", ("bob",)), Naming("bob", "y", ("cy",)), Naming("ann", "z", ("bob", "y")))
        other = Book(Naming("ann", "x", ("bob",)), Naming("bob", "y", ("cy",)), Naming("ann", "z", ("ann", "x", "y")))
        self.assertEqual(table_of(one.on(0)), table_of(other.on(0)))
        self.check(one.on(0), other.on(0), (1, 2))
        self.check(other.on(0), one.on(0), (0, 2))

    def test_the_first_one_is_told_that_of_one_ahead(self):
        one = Book(Naming("a", "x", ("b",)), Naming("c", "x", ("d",)), Naming("e", "x", ("f",)))
        other = Book(Naming("g", "x", ("h",)), Naming("a", "x", ("b",)))
        self.check(one.on(0), other.on(0), (0, 1))
        self.check(other.on(0), one.on(0), (0, 0))
        self.check(one.without(1, 2).on(0), other.on(0), (1, 0))

    def test_small_books(self):
        for one, other in zip(SMALL_BOOKS, SMALL_BOOKS[1:] + SMALL_BOOKS[:1]):
            for book, beside in ((one, one), (one, other)):
                days = (book.on(0), beside.on(5))
                expected = None
                for which in (1, 0):
                    for index in days[which].namings[::-1]:
                        naming = days[which].book[index]
                        if not comes_of(days[1 - which], (naming.person, naming.name), naming.chain):
                            expected = (which, index)
                self.check(*days, expected)
                if expected is None:
                    self.assertEqual(table_of(days[0]), table_of(days[1]))


class ToldApart(PlainCase):
    def by_hand(self, one, other, closed):
        """(which, start, chain): what [47] tells, by the sets of all chains that come."""
        starts = {(naming.person, naming.name) for day in (one, other)
                  for naming in [day.book[index] for index in day.namings]}
        for start in sorted(starts):
            sets = [list_of_some(meanings(day, start)) for day in (one, other)]
            kept = [[chain for chain in found if len(chain) == 1 or chain[0] not in closed] for found in sets]
            for which in (0, 1):
                apart = [chain for chain in kept[which] if chain not in meanings((other, one)[which], start)]
                if apart:
                    return (which, start, apart[0])
        return None

    def check(self, one, other, closed, expected):
        for found in (told_apart(one, other, closed), told_apart(one=one, other=other, closed=tuple(closed))):
            if expected is None:
                self.assertIsNone(found)
                continue
            self.assertIs(type(found), tuple)
            self.same(found[:3], expected)
            self.assertEqual(len(found), 4)
            which, start, chain, statements = found
            self.assertIs(type(statements), tuple)
            for statement in statements:
                self.assertIsInstance(statement, Naming)
                self.assertEqual(statement.days, (0, LIMIT))
                self.assertNotIn(statement.person, closed)
            more = [(statement.person, statement.name, statement.chain) for statement in statements]
            meant = [set(oracles.meant(oracles.rules_on(day.book, day.number) + more, start)) for day in (one, other)]
            self.assertTrue(meant[which] - meant[1 - which], found)

    def test_equal_days(self):
        for closed in ([], ["ann"], ["ann", "bob", "cy"], ["zed"]):
            self.check(MIXED.on(3), MIXED.on(3), closed, None)
            self.check(MIXED.on(3), MIXED.on(7), closed, None)
            self.check(MIXED.on(3), Book(*MIXED.statements[::-1]).on(9), closed, None)
            self.check(Book().on(0), Book().on(9), closed, None)

    def test_no_closed_person(self):
        one = Book(Naming("ann", "x", ("bob", "y")), Naming("bob", "y", ("cy",)))
        other = Book(Naming("ann", "x", ("cy",)), Naming("bob", "y", ("cy",)))
        self.check(one.on(0), other.on(0), [], (0, ("ann", "x"), ("bob", "y")))
        self.check(other.on(0), one.on(0), [], (1, ("ann", "x"), ("bob", "y")))
        self.check(one.on(0), other.on(0), ["ann", "zed"], (0, ("ann", "x"), ("bob", "y")))

    def test_closed_persons(self):
        one = Book(Naming("ann", "x", ("bob", "y")), Naming("bob", "y", ("cy",)))
        other = Book(Naming("ann", "x", ("cy",)), Naming("bob", "y", ("cy",)))
        self.check(one.on(0), other.on(0), ["bob"], None)
        self.check(other.on(0), one.on(0), ["bob", "ann"], None)
        self.check(one.on(0), other.with_more(Naming("ann", "x", ("dan",))).on(0), ["bob"], (1, ("ann", "x"), ("dan",)))
        self.check(one.on(0), other.without(1).on(0), ["bob"], (0, ("bob", "y"), ("cy",)))
        self.check(one.on(0), Book().on(0), ["bob", "ann"], (0, ("ann", "x"), ("cy",)))

    def test_both_directions(self):
        one = Book(Naming("bob", "x", ("cy",)), Naming("ann", "x", ("cy",)))
        other = Book(Naming("bob", "x", ("cy",)), Naming("ann", "x", ("bob",)))
        self.check(one.on(0), other.on(0), [], (0, ("ann", "x"), ("cy",)))
        self.check(other.on(0), one.on(0), [], (0, ("ann", "x"), ("bob",)))
        self.check(one.without(1).on(0), other.on(0), [], (1, ("ann", "x"), ("bob",)))

    def test_the_first_start_and_the_first_chain(self):
        one = Book(Naming("bob", "x", ("cy",)), Naming("ann", "y", ("cy", "z", "a")), Naming("ann", "y", ("cy", "a", "z")),
                   Naming("ann", "b", ("zed", "x")))
        other = Book(Naming("ann", "b", ("zed", "x")), Naming("bob", "x", ("dan",)))
        self.check(one.on(0), other.on(0), [], (0, ("ann", "y"), ("cy", "a", "z")))
        self.check(other.on(0), one.on(0), [], (1, ("ann", "y"), ("cy", "a", "z")))
        self.check(other.on(0), one.on(0), ["ann", "cy"], (0, ("bob", "x"), ("dan",)))

    def test_an_open_person_keeps_what_is_stated(self):
        one = Book(Naming("ann", "x", ("bob", "x")), Naming("bob", "x", ("cy", "x")), Naming("cy", "x", ("dan",)))
        other = Book(Naming("ann", "x", ("bob", "x")), Naming("bob", "x", ("dan",)), Naming("cy", "x", ("dan",)))
        self.check(one.on(0), other.on(0), ["cy"], None)
        self.check(one.on(0), other.on(0), ["ann", "bob"], (0, ("ann", "x"), ("cy", "x")))

    def test_chains_without_end(self):
        one = Book(Naming("ann", "x", ("ann", "x", "y")), Naming("ann", "x", ("bob",)))
        other = Book(Naming("ann", "x", ("ann", "x", "y", "y")), Naming("ann", "x", ("bob",)))
        self.check(one.on(0), other.on(0), [], (0, ("ann", "x"), ("bob", "y")))
        self.check(one.on(0), other.on(0), ["ann"], (0, ("ann", "x"), ("bob", "y")))
        self.check(one.on(0), other.on(0), ["ann", "bob"], None)
        self.check(one.without(1).on(0), other.without(1).on(0), [], (0, ("ann", "x"), ("ann", "x", "y")))
        self.check(one.without(1).on(0), other.without(1).on(0), ["ann"], None)

    def test_new_persons_are_in_neither_book_and_not_closed(self):
        letters = "abcdefghijklmnopqrstuvwxyz"
        one = Book(Naming("ann", "x", ("bob", "p", "q", "r", "s")), *[Naming("m", "x", (word,)) for word in letters[:20]])
        other = Book(*one.statements[1:])
        self.check(one.on(0), other.on(0), list(letters[20:25]), (0, ("ann", "x"), ("bob", "p", "q", "r", "s")))
        self.check(other.on(0), one.on(0), list(letters), (1, ("ann", "x"), ("bob", "p", "q", "r", "s")))

    def test_a_passed_list_stays_as_it_is(self):
        closed = ["bob", "ann"]
        told_apart(MIXED.on(0), Book().on(0), closed)
        self.assertEqual(closed, ["bob", "ann"])

    def test_small_books(self):
        source = random.Random(52)
        for one, other in zip(SMALL_BOOKS, SMALL_BOOKS[1:] + SMALL_BOOKS[:1]):
            for book, beside in ((one, one), (one, other)):
                for closed in ([], ["ann"], ["ann", "bob", "cy"], ["bob", "zed"]):
                    days = (book.on(0), beside.on(5))
                    self.check(*days, closed, self.by_hand(*days, closed))
                if told_apart(*days, []) is None:
                    self.assertIsNone(alike(*days))
                closed = ["ann", "bob"]
                if told_apart(*days, closed) is None:
                    for _ in range(5):
                        more = [(one.person, one.name, one.chain) for one in (
                            oracles.random_naming(source, ("cy", "new", "zed"), ("x", "y"), (None,)) for _ in range(4))]
                        told = [oracles.table_of_rules(oracles.rules_on(day.book, day.number) + more) for day in days]
                        self.assertEqual(*told)


def list_of_some(names):
    """The chains of at most nine words of a set, in order: enough to tell small sets apart."""
    return list(itertools.takewhile(lambda chain: len(chain) <= 9, names.ordered()))
