"""[80] to [84]: halls, guarded and counting ones; [2] as far as it speaks of them."""

import itertools
import random

from namechains.books import Book
from namechains.errors import Broken, InvalidGuard, InvalidStatement, Missing, OutOfRange, Repeated, TooMany
from namechains.futures import can_come, parted
from namechains.halls import CountingHall, GuardedCountingHall, GuardedHall, Hall
from namechains.limits import LIMIT
from namechains.meaning import means, table_of
from namechains.statements import Leave, Naming
from tests import oracles, samples
from tests.cases import PlainCase
from tests.test_book import MANY, NOT_STATEMENTS, again

ONE = Naming("ann", "x", ("bob",))
TWO = Naming("bob", "x", ("cy",), (3, 9))
THREE = Leave("ann", ("bob", "x"), (0, 5))
FOUR = Naming("bob", "x", ("ann", "x"))
BOOK = Book(ONE, TWO)
NOT_NUMBERS = [value for value in samples.ANY_VALUES if type(value) is not int]
MAKERS = [Hall, GuardedHall, CountingHall, GuardedCountingHall,
          lambda book: GuardedHall(book, ("never", ("ann", "nobody"), "zed"), closed=["ann"]),
          lambda book: GuardedCountingHall(book, ("within", ("ann",), ("ann",)), closed=("ann",))]


class Stop(Exception):
    """An error of the tests' own."""


class HallCase(PlainCase):
    def state_of(self, hall):
        return (hall.book, hall.moment, hall.undone, hall.depth,
                [hall.book_at(number) for number in range(hall.moment + 1)])

    def check_refused(self, hall, error, name, value, action):
        """The call raises this error, and nothing is done."""
        before = self.state_of(hall)
        self.check_error(error, name, value, action)
        self.assertEqual(self.state_of(hall), before)

    def check_hall(self, hall, book, moment, undone, depth=0):
        self.assertEqual(hall.book, book)
        self.same((hall.moment, hall.undone, hall.depth), (moment, undone, depth))
        self.assertEqual(hall.book_at(moment), book)


class Changes(HallCase):
    def test_state_and_take_back(self):
        for make in MAKERS:
            hall = make(Book())
            self.check_hall(hall, Book(), 0, 0)
            self.assertIsNone(hall.state(ONE))
            self.check_hall(hall, Book(ONE), 1, 0)
            self.assertIsNone(hall.state(TWO, THREE, FOUR))
            self.check_hall(hall, Book(ONE, TWO, THREE, FOUR), 2, 0)
            self.assertIsNone(hall.take_back(again(THREE), again(ONE)))
            self.check_hall(hall, Book(TWO, FOUR), 3, 0)
            self.assertIsNone(hall.state(ONE))
            self.check_hall(hall, Book(TWO, FOUR, ONE), 4, 0)
            hall.take_back(FOUR)
            self.check_hall(hall, Book(TWO, ONE), 5, 0)

    def test_made_by_name(self):
        for made in (Hall, GuardedHall, CountingHall, GuardedCountingHall):
            self.check_hall(made(book=BOOK), BOOK, 0, 0)

    def test_without_arguments_each_is_a_change(self):
        for make in MAKERS:
            hall = make(BOOK)
            self.assertIsNone(hall.state())
            self.assertIsNone(hall.take_back())
            self.check_hall(hall, BOOK, 2, 0)
            hall.undo()
            self.check_hall(hall, BOOK, 1, 1)
            hall.take_back()
            self.check_hall(hall, BOOK, 2, 0)

    def test_the_errors_of_state(self):
        for make in MAKERS:
            hall = make(BOOK)
            for value in NOT_STATEMENTS:
                self.check_refused(hall, InvalidStatement, "index", 0, lambda: hall.state(value))
                self.check_refused(hall, InvalidStatement, "index", 2, lambda: hall.state(ONE, ONE, value, None))
            self.check_refused(hall, TooMany, "limit", 24, lambda: hall.state(*MANY[:23]))
            self.check_refused(hall, TooMany, "limit", 24, lambda: hall.state(ONE, ONE, *MANY[:21]))
            self.check_refused(hall, InvalidStatement, "index", 23, lambda: hall.state(*MANY[:23], None))
            self.check_refused(hall, Repeated, "index", 0, lambda: hall.state(again(TWO)))
            self.check_refused(hall, Repeated, "index", 2, lambda: hall.state(THREE, FOUR, again(THREE), ONE))
            hall.state(*MANY[:22])
            self.same(len(hall.book), 24)
            self.check_refused(hall, TooMany, "limit", 24, lambda: hall.state(ONE))

    def test_the_errors_of_take_back(self):
        for make in MAKERS:
            hall = make(BOOK)
            for value in NOT_STATEMENTS:
                self.check_refused(hall, InvalidStatement, "index", 1, lambda: hall.take_back(THREE, value))
            self.check_refused(hall, Missing, "index", 0, lambda: hall.take_back(THREE))
            self.check_refused(hall, Missing, "index", 1, lambda: hall.take_back(ONE, THREE, ONE))
            self.check_refused(hall, Missing, "index", 2, lambda: hall.take_back(ONE, TWO, again(ONE)))
            self.check_refused(hall, InvalidStatement, "index", 2, lambda: hall.take_back(ONE, ONE, None))
            self.check_refused(hall, Missing, "index", 0, lambda: hall.take_back(*MANY))

    def test_undo_and_redo(self):
        for make in MAKERS:
            hall = make(BOOK)
            hall.state(THREE)
            hall.take_back(ONE)
            hall.state(FOUR, ONE)
            books = [hall.book_at(number) for number in range(4)]
            self.assertEqual(books, [BOOK, Book(ONE, TWO, THREE), Book(TWO, THREE), Book(TWO, THREE, FOUR, ONE)])
            self.assertIsNone(hall.undo())
            self.check_hall(hall, books[2], 2, 1)
            self.assertIsNone(hall.undo(count=2))
            self.check_hall(hall, books[0], 0, 3)
            hall.undo(0)
            hall.redo(0)
            self.check_hall(hall, books[0], 0, 3)
            self.assertIsNone(hall.redo(2))
            self.check_hall(hall, books[2], 2, 1)
            self.assertIsNone(hall.redo())
            self.check_hall(hall, books[3], 3, 0)
            hall.undo(3)
            hall.redo(count=3)
            self.check_hall(hall, books[3], 3, 0)

    def test_wrong_counts(self):
        for make in MAKERS:
            hall = make(BOOK)
            hall.state(THREE)
            hall.state(FOUR)
            hall.undo()
            for value in (-1, 2, 3, LIMIT, True, False, *NOT_NUMBERS):
                self.check_refused(hall, OutOfRange, "value", value, lambda: hall.undo(value))
                self.check_refused(hall, OutOfRange, "value", value, lambda: hall.redo(count=value))
            hall.undo()
            self.check_refused(hall, OutOfRange, "value", 1, lambda: hall.undo())
            hall.redo(2)
            self.check_refused(hall, OutOfRange, "value", 1, lambda: hall.redo())

    def test_a_new_change_ends_what_can_be_redone(self):
        for make in MAKERS:
            for change, book in ((lambda hall: hall.state(FOUR), Book(ONE, TWO, FOUR)),
                                 (lambda hall: hall.take_back(ONE), Book(TWO)), (lambda hall: hall.state(), BOOK)):
                hall = make(BOOK)
                hall.state(THREE)
                hall.undo()
                self.check_hall(hall, BOOK, 0, 1)
                change(hall)
                self.check_hall(hall, book, 1, 0)
                self.check_error(OutOfRange, "value", 1, lambda: hall.redo())


class Trials(HallCase):
    def prepared(self, make):
        """A hall with two changes done and one undone."""
        hall = make(BOOK)
        hall.state(THREE)
        hall.take_back(ONE)
        hall.state(FOUR)
        hall.undo()
        return hall

    def test_attempt(self):
        for make in MAKERS:
            hall = self.prepared(make)

            def action(given):
                self.assertIs(given, hall)
                self.assertEqual(given.depth, 1)
                given.state(ONE)
                return ("told", 1)

            self.same(hall.attempt(action), ("told", 1))
            self.check_hall(hall, Book(TWO, THREE, ONE), 3, 0)
            self.assertIsNone(hall.attempt(action=lambda given: given.undo(3)))
            self.check_hall(hall, BOOK, 0, 3)

    def test_explore(self):
        for make in MAKERS:
            hall = self.prepared(make)
            before = self.state_of(hall)

            def action(given):
                self.assertIs(given, hall)
                self.assertEqual(given.depth, 1)
                given.state(ONE)
                return given.book

            self.assertEqual(hall.explore(action), Book(TWO, THREE, ONE))
            self.assertEqual(self.state_of(hall), before)
            self.assertIsNone(hall.explore(action=lambda given: given.undo(2)))
            self.assertEqual(self.state_of(hall), before)
            hall.redo()
            self.check_hall(hall, Book(TWO, THREE, FOUR), 3, 0)

    def test_errors_that_leave_the_action(self):
        for make, name in itertools.product(MAKERS, ("attempt", "explore")):
            hall = self.prepared(make)
            before = self.state_of(hall)
            for error in (Stop, KeyError, ValueError, ZeroDivisionError, KeyboardInterrupt):
                def fails(given):
                    given.undo()
                    given.state(FOUR)
                    raise error("why")

                with self.assertRaises(error) as caught:
                    getattr(hall, name)(fails)
                self.assertIs(type(caught.exception), error)
                self.assertEqual(self.state_of(hall), before)
            for action, kind in ((lambda given: given.state(FOUR, FOUR), Repeated), (lambda given: given.undo(9), OutOfRange),
                                 (lambda given: (given.state(ONE), given.state(None)), InvalidStatement)):
                with self.assertRaises(kind):
                    getattr(hall, name)(action)
                self.assertEqual(self.state_of(hall), before)

    def test_trials_within_trials(self):
        for make in MAKERS:
            hall = self.prepared(make)
            depths = []

            def inner(given):
                depths.append(given.depth)
                given.state(MANY[0])
                return "inner"

            def fails(given):
                depths.append(given.depth)
                given.undo()
                given.explore(inner)
                raise Stop()

            def outer(given):
                depths.append(given.depth)
                given.state(MANY[1])
                told = given.attempt(inner)
                with self.assertRaises(Stop):
                    given.attempt(fails)
                depths.append(given.depth)
                given.explore(lambda one: (depths.append(one.depth), one.undo()))
                return told

            self.assertEqual(hall.attempt(outer), "inner")
            self.assertEqual(depths, [1, 2, 2, 3, 1, 2])
            self.check_hall(hall, Book(TWO, THREE, MANY[1], MANY[0]), 4, 0)
            before = self.state_of(hall)
            hall.explore(lambda given: given.attempt(lambda one: one.take_back(TWO)))
            self.assertEqual(self.state_of(hall), before)

    def test_undoing_what_was_done_before(self):
        for make in MAKERS:
            hall = self.prepared(make)
            before = self.state_of(hall)

            def action(given):
                given.undo(2)
                self.assertEqual((given.moment, given.undone, given.book), (0, 3, BOOK))
                given.redo(3)
                self.assertEqual((given.moment, given.undone), (3, 0))

            hall.explore(action)
            self.assertEqual(self.state_of(hall), before)
            hall.attempt(action)
            self.check_hall(hall, Book(TWO, THREE, FOUR), 3, 0)


class Moments(HallCase):
    def test_book_at(self):
        for make in MAKERS:
            hall = make(BOOK)
            hall.state(THREE)
            hall.state(FOUR)
            hall.undo()
            self.assertEqual([hall.book_at(0), hall.book_at(number=1)], [BOOK, Book(ONE, TWO, THREE)])
            for value in (-1, 2, True, False, LIMIT, *NOT_NUMBERS):
                self.check_error(OutOfRange, "value", value, lambda: hall.book_at(value))

    def random_hall(self, source, changes):
        hall = Hall(oracles.random_book(source, 4, days=[None, (0, 4), (3, 9)]))
        for _ in range(changes):
            fresh = oracles.random_naming(source, ("ann", "bob", "cy"), ("x", "y"), [None, (0, 4), (3, 9)])
            if fresh in hall.book.statements:
                hall.take_back(fresh)
            elif len(hall.book) < 9:
                hall.state(fresh)
            else:
                hall.take_back(source.choice(hall.book.statements))
        return hall

    def test_spans(self):
        source = random.Random(131)
        for _ in range(25):
            hall = self.random_hall(source, 12)
            for chain, person, day in itertools.product(
                    (("ann", "x"), ("bob", "y", "x"), ("ann",), ("zed", "x")), ("ann", "cy", "zed"), (0, 3, LIMIT)):
                moments = [number for number in range(hall.moment + 1)
                           if person in means(hall.book_at(number).on(day), chain)]
                expected = []
                for number in moments:
                    begun = expected.pop()[0] if expected and expected[-1][1] == number - 1 else number
                    expected.append((begun, number))
                self.same(hall.spans(chain, person, day), tuple(expected))
            self.same(hall.spans(chain=("ann",), person="ann", day=0), ((0, hall.moment),))

    def test_spans_by_hand(self):
        hall = Hall(Book())
        hall.state(ONE)
        hall.state(TWO)
        hall.take_back(ONE)
        hall.state(ONE)
        hall.undo()
        self.same(hall.spans(("ann", "x"), "bob", 0), ((1, 2),))
        hall.redo()
        self.same(hall.spans(("ann", "x"), "bob", LIMIT), ((1, 2), (4, 4)))
        self.same(hall.spans(("ann", "x", "x"), "cy", 3), ((2, 2), (4, 4)))
        self.same(hall.spans(("ann", "x", "x"), "cy", 10), ())

    def test_changed(self):
        source = random.Random(132)
        for _ in range(12):
            hall = self.random_hall(source, 8)
            for first, second, day in itertools.product(range(hall.moment + 1), range(hall.moment + 1), (0, 9)):
                rows = [{(*pair, meant) for pair, persons in table_of(hall.book_at(number).on(day)).items()
                         for meant in persons} for number in (first, second)]
                expected = (tuple(sorted(rows[0] - rows[1])), tuple(sorted(rows[1] - rows[0])))
                self.same(hall.changed(first, second, day), expected)
        self.same(hall.changed(first=0, second=0, day=0), ((), ()))

    def test_changed_by_hand(self):
        hall = Hall(Book())
        hall.state(ONE, TWO)
        hall.take_back(ONE)
        hall.state(FOUR)
        self.same(hall.changed(0, 1, 3), ((), (("ann", "x", "bob"), ("bob", "x", "cy"))))
        self.same(hall.changed(1, 2, 0), ((("ann", "x", "bob"),), ()))
        self.same(hall.changed(3, 1, LIMIT), ((), (("ann", "x", "bob"),)))
        for value in (-1, 4, True, LIMIT, *NOT_NUMBERS):
            self.check_error(OutOfRange, "value", value, lambda: hall.changed(value, 0, 0))
            self.check_error(OutOfRange, "value", value, lambda: hall.changed(0, value, 0))
            self.check_error(OutOfRange, "value", value, lambda: hall.changed(value, 9, 0))


class Guards(HallCase):
    NEVER = ("never", ("ann", "x"), "cy")
    WITHIN = ("within", ("ann", "x"), ("bob", "x"))

    def does_hold(self, guard, book, closed):
        days = [book.on(number) for number in book.changes()]
        if guard[0] == "never":
            return all(can_come(day, *guard[1:], closed) is None for day in days)
        return all(parted(day, *guard[1:], closed) is None for day in days)

    def test_classes(self):
        for made in (GuardedHall, CountingHall, GuardedCountingHall):
            self.assertTrue(issubclass(made, Hall))
        self.assertFalse(issubclass(CountingHall, GuardedHall))
        self.assertFalse(issubclass(GuardedHall, CountingHall))
        self.assertTrue(issubclass(GuardedCountingHall, GuardedHall))
        self.assertTrue(issubclass(GuardedCountingHall, CountingHall))

    def test_guards_of_another_form(self):
        right = self.NEVER
        wrong = [*samples.ANY_VALUES, list(right), right[:2], (*right, 1), ("Never", *right[1:]), ("within", ("ann",), "cy"),
                 ("never", ("ann",), ("cy",)), ("never", "ann", "cy"), ("never", ("ann",), None), (None, ("ann",), "cy"),
                 ("within", ("ann",), ["cy"]), ("never", ("ann", "x"), "Cy"), ("within", ("ann",), ()), ("never", (), "cy"),
                 ("never", ("ann",) * 10, "cy"), ("within", ("ann",), ("cy",) * 10), (True, ("ann",), "cy")]
        for made in (GuardedHall, GuardedCountingHall):
            for value in wrong:
                self.check_error(InvalidGuard, "index", 0, lambda: made(Book(), value))
                # A guard that does not hold comes behind all guards of another form.
                self.check_error(InvalidGuard, "index", 2, lambda: made(Book(), right, ("never", ("ann",), "ann"), value, None))
            made(Book(), ("never", ("ann",) * 9, "cy"), ("within", ("ann",) * 9, ("ann",) * 9), closed=["ann"])

    def test_guards_that_do_not_hold(self):
        source = random.Random(133)
        guards = [self.NEVER, self.WITHIN, ("never", ("bob", "y", "x"), "ann"), ("within", ("ann", "x", "y"), ("bob", "y"))]
        found = {True: 0, False: 0}
        for _ in range(60):
            book = oracles.random_book(source, 6, days=[None, (0, 4), (3, 9)])
            for closed in ([], ["ann"], ("ann", "bob"), ["cy", "bob", "ann"]):
                rows = [self.does_hold(guard, book, closed) for guard in guards]
                found[all(rows)] += 1
                for made in (GuardedHall, GuardedCountingHall):
                    if all(rows):
                        self.assertEqual(made(book, *guards, closed=closed).book, book)
                    else:
                        self.check_error(Broken, "index", rows.index(False), lambda: made(book, *guards, closed=closed))
        self.assertGreater(min(found.values()), 8)

    def test_any_future_and_any_day(self):
        self.check_error(Broken, "index", 0, lambda: GuardedHall(Book(), self.NEVER))
        GuardedHall(Book(), self.NEVER, closed=["ann"])
        book = Book(ONE, FOUR)
        self.check_error(Broken, "index", 0, lambda: GuardedHall(Book(ONE, Naming("ann", "x", ("cy",), (LIMIT, LIMIT))),
                                                                 self.NEVER, closed=["ann"]))
        GuardedHall(book, self.NEVER, self.WITHIN, closed=("ann",))
        self.check_error(Broken, "index", 1, lambda: GuardedHall(Book(ONE), self.NEVER, self.WITHIN, closed=("ann",)))
        self.assertEqual(GuardedHall(book, self.NEVER, closed=("ann",)).book, book)
        GuardedHall(book, ("within", ("bob", "x"), ("ann", "x")), closed=["ann", "bob"])
        self.check_error(Broken, "index", 0, lambda: GuardedHall(
            book, ("within", ("bob", "x"), ("ann", "x")), closed=["ann"]))

    def test_changes_that_are_refused(self):
        for made in (GuardedHall, GuardedCountingHall):
            hall = made(Book(ONE), ("never", ("cy", "x"), "cy"), self.NEVER, closed=["ann", "cy"])
            bad = Naming("ann", "x", ("cy",), (7, 7))
            self.check_refused(hall, Broken, "index", 1, lambda: hall.state(bad))
            self.check_refused(hall, Broken, "index", 0, lambda: hall.state(THREE, bad, Naming("cy", "x", ("cy",))))
            self.check_refused(hall, InvalidStatement, "index", 1, lambda: hall.state(bad, None))
            self.check_refused(hall, Repeated, "index", 1, lambda: hall.state(bad, ONE))
            self.check_refused(hall, TooMany, "limit", 24, lambda: hall.state(bad, *MANY[:23]))
            hall.state(FOUR)
            self.check_hall(hall, Book(ONE, FOUR), 1, 0)
            hall.undo()
            self.check_refused(hall, Broken, "index", 1, lambda: hall.state(bad))
            self.assertEqual(hall.undone, 1)
            self.check_error(Broken, "index", 1, lambda: hall.attempt(lambda given: (given.state(THREE), given.state(bad))))
            self.check_hall(hall, Book(ONE), 0, 1)

    def test_taking_back_can_break_a_guard(self):
        within = ("within", ("ann", "x"), ("cy", "x"))
        book = Book(ONE, Naming("cy", "x", ("bob",)), TWO)
        for made in (GuardedHall, GuardedCountingHall):
            hall = made(book, within, closed=["ann", "cy"])
            self.check_refused(hall, Broken, "index", 0, lambda: hall.take_back(book[1]))
            self.check_refused(hall, Broken, "index", 0, lambda: hall.take_back(TWO, book[1]))
            self.check_refused(hall, InvalidStatement, "index", 1, lambda: hall.take_back(book[1], 1))
            self.check_refused(hall, Missing, "index", 1, lambda: hall.take_back(book[1], THREE))
            hall.take_back(book[1], ONE)
            self.check_hall(hall, Book(TWO), 1, 0)

    def test_undo_and_redo_are_never_refused(self):
        # A guard that holds again after each change holds behind each undoing, too.
        hall = GuardedHall(Book(), self.NEVER, closed=["ann"])
        hall.state(ONE)
        hall.state(FOUR)
        hall.undo(2)
        hall.redo(2)
        self.check_hall(hall, Book(ONE, FOUR), 2, 0)

    def test_closed_is_for_the_guards_alone(self):
        closed = ["ann"]
        hall = GuardedHall(Book(), self.NEVER, closed=closed)
        closed.clear()
        hall.state(ONE)
        hall.take_back(ONE)
        self.check_hall(hall, Book(), 2, 0)


class Counts(HallCase):
    def test_counts(self):
        for made in (CountingHall, GuardedCountingHall):
            hall = made(BOOK)
            self.same(hall.counts, {})
            hall.state(THREE, FOUR)
            self.same(hall.counts, {"ann": (1, 0), "bob": (1, 0)})
            hall.take_back(FOUR, TWO, ONE)
            self.same(hall.counts, {"ann": (1, 1), "bob": (1, 2)})
            hall.undo(2)
            hall.redo()
            self.same(hall.counts, {"ann": (1, 1), "bob": (1, 2)})
            hall.state()
            hall.take_back()
            self.same(hall.counts, {"ann": (1, 1), "bob": (1, 2)})

    def test_ascending_and_new(self):
        hall = CountingHall(Book())
        hall.state(Naming("zed", "x", ("a",)), Naming("a", "x", ("a",)), Naming("m", "x", ("a",)))
        self.assertEqual(list(hall.counts), ["a", "m", "zed"])
        hall.counts["ann"] = (9, 9)
        hall.counts.clear()
        self.same(hall.counts, {"a": (1, 0), "m": (1, 0), "zed": (1, 0)})

    def test_trials(self):
        for made in (CountingHall, GuardedCountingHall):
            hall = made(BOOK)
            hall.explore(lambda given: (given.state(THREE), given.take_back(ONE)))
            self.same(hall.counts, {"ann": (1, 1)})
            self.assertEqual(hall.book, BOOK)
            with self.assertRaises(Repeated):
                hall.attempt(lambda given: (given.state(FOUR), given.state(FOUR)))
            self.same(hall.counts, {"ann": (1, 1), "bob": (1, 0)})
            hall.attempt(lambda given: given.take_back(TWO))
            self.same(hall.counts, {"ann": (1, 1), "bob": (1, 1)})

    def test_refused_changes_are_not_counted(self):
        hall = GuardedCountingHall(BOOK, ("never", ("cy", "x"), "bob"), closed=["cy"])
        for error, action in ((Broken, lambda: hall.state(THREE, Naming("cy", "x", ("bob",)))),
                              (Repeated, lambda: hall.state(THREE, ONE)), (Missing, lambda: hall.take_back(ONE, THREE)),
                              (InvalidStatement, lambda: hall.take_back(ONE, 1)), (TooMany, lambda: hall.state(*MANY))):
            with self.assertRaises(error):
                action()
        self.same(hall.counts, {})
        hall.take_back(ONE)
        self.same(hall.counts, {"ann": (0, 1)})
