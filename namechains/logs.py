"""Logs of what persons state, written by halls, and what can be read of them (section 9)."""

from namechains.books import Book
from namechains.checks import is_word
from namechains.errors import Closed, Forked, InvalidLogs
from namechains.futures import can_come, sure
from namechains.halls import Hall, book_without
from namechains.lines import namings_of
from namechains.logtexts import read_log, written_line
from namechains.meaning import meant_by, table_by
from namechains.openings import certain_namings
from namechains.proofs import is_covered
from namechains.searches import least_sets

# How many persons enough tells at the most.
MAX_ENOUGH = 3


class LoggedHall(Hall):
    """A hall that writes for each person a log of what is stated and taken back; closed persons state nothing more."""

    def __init__(self, book, *, closed=()):
        super().__init__(book)
        self._shut = tuple(closed)
        # For each person (text, number of lines, sum of the last one).
        self._written = {}
        self._write(True, book.statements)
        for person in self._shut:
            self._add_line(person, ".")

    @property
    def logs(self):
        """A dict from all persons with a line to their logs."""
        return {person: self._written[person][0] for person in sorted(list(self._written))}

    def state(self, *statements):
        """Put the statements behind those of the book, as one change, and write them."""
        # Whatever else is wrong with them comes first.
        self.book.with_more(*statements)
        self._check_persons(statements)
        super().state(*statements)
        self._write(True, statements)

    def take_back(self, *statements):
        """Take the statements out of the book, as one change, and write them."""
        book_without(self.book, statements)
        self._check_persons(statements)
        super().take_back(*statements)
        self._write(False, statements)

    def undo(self, count=1):
        """Undo so many changes, the last one first, and write the contrary lines."""
        super().undo(count)
        for _, is_stated, statements in self._undone[len(self._undone) - count:]:
            self._write(not is_stated, statements[::-1])

    def redo(self, count=1):
        """Redo so many changes, the one that was undone last first, and write their lines again."""
        super().redo(count)
        for _, is_stated, statements in self._past[len(self._past) - count:]:
            self._write(is_stated, statements)

    def attempt(self, action):
        """Return what action(hall) returns; if an error leaves it, all is as before."""
        written = dict(self._written)
        try:
            told = super().attempt(action)
            written = self._written
            return told
        finally:
            self._written = written

    def explore(self, action):
        """Return what action(hall) returns; all is as before in any case."""
        written = dict(self._written)
        try:
            return super().explore(action)
        finally:
            self._written = written

    def _check_persons(self, statements):
        for index, statement in enumerate(statements):
            if statement.person in self._shut:
                raise Closed(index)

    def _write(self, is_stated, statements):
        sign = "+" if is_stated else "-"
        for statement in statements:
            self._add_line(statement.person, f"{sign} {statement.text}")

    def _add_line(self, person, said):
        text, many, before = self._written.get(person, ("", 0, 0))
        line, total = written_line(many + 1, said, before)
        self._written[person] = (f"{text}{line}\n", many + 1, total)


class View:
    """What can be read of logs: a dict from persons to any strings."""

    def __init__(self, logs):
        if not _are_logs(logs):
            raise InvalidLogs(logs)
        self._lines = {}
        self._logs = {}
        shut = []
        statements = []
        for person in sorted(list(logs)):
            many, text, there, is_closed = read_log(person, logs[person])
            self._lines[person] = many
            if many:
                self._logs[person] = text
            if is_closed:
                shut.append(person)
            statements.extend(there)
        self._closed = tuple(shut)
        self._book = Book(*statements)

    @property
    def book(self):
        """The Book of what is there."""
        return self._book

    @property
    def lines(self):
        """A dict from the persons of the logs to how many lines are read."""
        return {person: self._lines[person] for person in self._lines}

    @property
    def closed(self):
        """The persons whose closing line is read, ascending."""
        return self._closed

    @property
    def logs(self):
        """A dict from the persons of whom a line is read to the text of these lines."""
        return {person: self._logs[person] for person in self._logs}

    def __eq__(self, other):
        return isinstance(other, View) and self.logs == other.logs


def fork(one, other):
    """Return (person, number) of the first line that both Views have read, but not alike; None without any."""
    first = one.logs
    second = other.logs
    for person in [person for person in first if person in second]:
        lines = list(zip(first[person].split("\n"), second[person].split("\n")))
        for number, (line, beside) in enumerate(lines[:min(one.lines[person], other.lines[person])]):
            if line != beside:
                return (person, number + 1)
    return None


def joined(one, other):
    """Return the View of all persons of both, each with the longer log that is read."""
    apart = fork(one, other)
    if apart is not None:
        person, number = apart
        raise Forked(person, number)
    first = one.logs
    second = other.logs
    persons = sorted(set(list(one.lines) + list(other.lines)))
    return View({person: max(first.get(person, ""), second.get(person, ""), key=len) for person in persons})


def is_sure(view, chain, person, day):
    """Tell whether the chain means the person on the day with this number in all that may come of the View."""
    return person in sure(view.book.on(day), chain, view.closed)


def is_thinkable(view, chain, person, day):
    """Tell whether the chain means the person on the day with this number in some of what may come of the View."""
    return can_come(view.book.on(day), chain, person, view.closed, kept=False) is not None


def enough(view, chain, person, day):
    """Return the least set of at most three persons with whom closed it would be sure; None if there is none."""
    today = view.book.on(day)

    def table_with(chosen):
        return table_by(certain_namings(today, [*view.closed, *chosen], False))

    def is_one(chosen):
        return person in meant_by(table_with(chosen), chain)

    def lacks(chosen):
        table = table_with(chosen)
        # Closing others would add only namings that tell nothing new.
        stating = sorted(set([naming.person for _, naming in namings_of(today) if not is_covered(table, naming)]))
        return [[one for one in stating if one not in view.closed and one not in chosen]]

    found = least_sets(MAX_ENOUGH, is_one, lacks)
    return found[0] if found else None


def _are_logs(value):
    """Tell whether the value is a dict from persons to strings."""
    if not isinstance(value, dict):
        return False
    return all([is_word(person) and isinstance(text, str) for person, text in value.items()])
