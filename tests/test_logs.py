"""[85], [86]: logs and the halls that write them; [2] as far as it speaks of them."""

import random

from namechains.books import Book
from namechains.errors import Closed, InvalidStatement, Missing, OutOfRange, Repeated, TooMany
from namechains.halls import Hall
from namechains.logs import LoggedHall
from namechains.statements import Naming
from tests import oracles
from tests.test_book import MANY
from tests.test_halls import BOOK, FOUR, ONE, THREE, TWO, HallCase, Stop

EMPTY = Book()


def lines(*rows):
    """The log with these rows, each without its number and sum, worked out anew."""
    text, before = "", 0
    for number, row in enumerate(rows, start=1):
        body = f"{number} {row} "
        before = (31 * before + sum(at * ord(letter) for at, letter in enumerate(body, start=1))) % 9973
        text += f"{body}{before}\n"
    return text


def stated(one):
    return f"+ {one.text}"


def taken(one):
    return f"- {one.text}"


class LogCase(HallCase):
    def check_logs(self, hall, **rows):
        """The hall has logs with these rows."""
        found = hall.logs
        self.same(found, {person: lines(*rows[person]) for person in sorted(rows)})
        self.assertEqual(list(found), sorted(found))


class LoggedHalls(LogCase):
    def test_the_lines_of_the_document(self):
        hall = LoggedHall(Book(ONE), closed=["ann"])
        self.same(hall.logs, {"ann": "1 + ann x = bob 9806\n2 . 5176\n"})
        self.assertEqual(lines("+ ann x = bob", "."), "1 + ann x = bob 9806\n2 . 5176\n")

    def test_the_first_lines(self):
        self.assertTrue(issubclass(LoggedHall, Hall))
        self.check_logs(LoggedHall(EMPTY))
        self.check_logs(LoggedHall(Book(TWO, ONE, FOUR, THREE)), ann=[stated(ONE), stated(THREE)],
                        bob=[stated(TWO), stated(FOUR)])
        self.check_logs(LoggedHall(book=BOOK, closed=("zed", "ann")), ann=[stated(ONE), "."], bob=[stated(TWO)], zed=["."])

    def test_changes(self):
        hall = LoggedHall(BOOK)
        self.assertIsNone(hall.state(THREE, FOUR))
        self.check_logs(hall, ann=[stated(ONE), stated(THREE)], bob=[stated(TWO), stated(FOUR)])
        self.assertIsNone(hall.take_back(FOUR, TWO, ONE))
        self.check_logs(hall, ann=[stated(ONE), stated(THREE), taken(ONE)],
                        bob=[stated(TWO), stated(FOUR), taken(FOUR), taken(TWO)])
        hall.state()
        hall.take_back()
        self.check_logs(hall, ann=[stated(ONE), stated(THREE), taken(ONE)],
                        bob=[stated(TWO), stated(FOUR), taken(FOUR), taken(TWO)])
        self.check_hall(hall, Book(THREE), 4, 0)

    def test_undone_and_redone(self):
        hall = LoggedHall(EMPTY)
        five = Naming("ann", "y", ("cy",))
        hall.state(ONE, five)
        hall.take_back(ONE)
        rows = [stated(ONE), stated(five), taken(ONE)]
        self.check_logs(hall, ann=rows)
        self.assertIsNone(hall.undo(2))
        rows += [stated(ONE), taken(five), taken(ONE)]
        self.check_logs(hall, ann=rows)
        self.assertIsNone(hall.redo())
        rows += [stated(ONE), stated(five)]
        self.check_logs(hall, ann=rows)
        hall.redo(count=1)
        rows += [taken(ONE)]
        self.check_logs(hall, ann=rows)
        hall.undo(0)
        hall.redo(0)
        self.check_logs(hall, ann=rows)
        hall.undo(count=1)
        rows += [stated(ONE)]
        self.check_logs(hall, ann=rows)

    def test_several_persons_undone(self):
        hall = LoggedHall(EMPTY)
        hall.state(TWO, ONE, FOUR)
        hall.undo()
        self.check_logs(hall, ann=[stated(ONE), taken(ONE)], bob=[stated(TWO), stated(FOUR), taken(FOUR), taken(TWO)])

    def test_trials(self):
        hall = LoggedHall(BOOK)
        hall.state(THREE)
        before = hall.logs

        def action(given):
            self.assertIs(given, hall)
            given.state(FOUR)
            self.check_logs(given, ann=[stated(ONE), stated(THREE)], bob=[stated(TWO), stated(FOUR)])
            given.undo(2)
            self.check_logs(given, ann=[stated(ONE), stated(THREE), taken(THREE)],
                            bob=[stated(TWO), stated(FOUR), taken(FOUR)])
            return given.depth

        self.same(hall.explore(action), 1)
        self.same(hall.logs, before)
        self.check_hall(hall, Book(ONE, TWO, THREE), 1, 0)

        def fails(given):
            given.take_back(ONE)
            given.attempt(lambda one: one.state(FOUR))
            given.undo()
            raise Stop()

        for trial in (hall.attempt, hall.explore):
            with self.assertRaises(Stop):
                trial(fails)
            self.same(hall.logs, before)
            self.check_hall(hall, Book(ONE, TWO, THREE), 1, 0)
        self.same(hall.attempt(action=action), 1)
        self.check_logs(hall, ann=[stated(ONE), stated(THREE), taken(THREE)], bob=[stated(TWO), stated(FOUR), taken(FOUR)])
        self.check_hall(hall, BOOK, 0, 2)

    def test_closed_persons(self):
        hall = LoggedHall(BOOK, closed=["ann", "eve"])
        hall.state(FOUR)
        before = hall.logs
        for error, name, value, action in (
                (Closed, "index", 0, lambda: hall.state(THREE)), (Closed, "index", 0, lambda: hall.take_back(ONE)),
                (Closed, "index", 1, lambda: hall.take_back(FOUR, ONE)),
                (Closed, "index", 0, lambda: hall.state(Naming("eve", "x", ("ann",)), THREE)),
                (InvalidStatement, "index", 1, lambda: hall.state(THREE, None)),
                (Repeated, "index", 1, lambda: hall.state(THREE, ONE)), (TooMany, "limit", 24, lambda: hall.state(*MANY)),
                (InvalidStatement, "index", 1, lambda: hall.take_back(ONE, 1)),
                (Missing, "index", 1, lambda: hall.take_back(ONE, THREE))):
            self.check_refused(hall, error, name, value, action)
            self.same(hall.logs, before)
        hall.state(Naming("cy", "x", ("ann",)))
        self.same(hall.undone, 0)

    def test_refused_changes_write_nothing(self):
        hall = LoggedHall(BOOK)
        hall.state(THREE)
        before = hall.logs
        for error, action in ((OutOfRange, lambda: hall.undo(2)), (OutOfRange, lambda: hall.redo(1)),
                              (OutOfRange, lambda: hall.undo(True)), (Repeated, lambda: hall.state(FOUR, ONE)),
                              (Missing, lambda: hall.take_back(ONE, FOUR))):
            with self.assertRaises(error):
                action()
            self.same(hall.logs, before)

    def test_what_the_caller_changes(self):
        closed = ["ann"]
        hall = LoggedHall(BOOK, closed=closed)
        closed[0] = "bob"
        hall.state(FOUR)
        with self.assertRaises(Closed):
            hall.state(THREE)
        hall.logs["ann"] = "more"
        hall.logs.clear()
        self.check_logs(hall, ann=[stated(ONE), "."], bob=[stated(TWO), stated(FOUR)])

    def test_random_changes(self):
        source = random.Random(141)
        for _ in range(10):
            book = oracles.random_book(source, 5)
            hall = LoggedHall(book)
            rows = {}
            for one in book.statements:
                rows.setdefault(one.person, []).append(stated(one))
            for _ in range(30):
                fresh = oracles.random_naming(source, ("ann", "bob"), ("x", "y"), [None])
                if source.random() < 0.3 and hall.moment:
                    change = {one.text for one in hall.book.statements}
                    hall.undo()
                    left = [one.text for one in hall.book.statements]
                    for text in sorted(change.symmetric_difference(left)):
                        rows.setdefault(text.split(" ")[0], []).append(f"{'-' if text in change else '+'} {text}")
                elif fresh in hall.book.statements:
                    hall.take_back(fresh)
                    rows[fresh.person].append(taken(fresh))
                elif len(hall.book) < 20:
                    hall.state(fresh)
                    rows.setdefault(fresh.person, []).append(stated(fresh))
            self.check_logs(hall, **rows)
