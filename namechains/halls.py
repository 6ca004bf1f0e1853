"""Halls run books by changes, which can be undone, redone and tried (section 9)."""

from namechains.checks import is_chain, is_integer_in, is_word
from namechains.errors import Broken, InvalidGuard, InvalidStatement, Missing, OutOfRange
from namechains.futures import can_come, parted
from namechains.limits import MAX_ASKED
from namechains.lines import namings_of
from namechains.meaning import meant_by, table_by, table_of
from namechains.statements import Leave, Naming


class Hall:
    """A book that changes; what was before each change is kept."""

    def __init__(self, book):
        # Each entry is a book behind the change that led to it: whether its statements were stated, and these.
        self._past = ((book, True, ()),)
        # What was undone last is last.
        self._undone = ()
        self._trials = 0

    @property
    def book(self):
        """The present book."""
        return self._past[-1][0]

    @property
    def moment(self):
        """How many changes are done and not undone."""
        return len(self._past) - 1

    @property
    def undone(self):
        """How many changes can be redone."""
        return len(self._undone)

    @property
    def depth(self):
        """How many trials are in progress."""
        return self._trials

    def state(self, *statements):
        """Put the statements behind those of the book, as one change."""
        book = self.book.with_more(*statements)
        self._past = (*self._past, (book, True, statements))
        self._undone = ()

    def take_back(self, *statements):
        """Take the statements out of the book, as one change."""
        book = book_without(self.book, statements)
        self._past = (*self._past, (book, False, statements))
        self._undone = ()

    def undo(self, count=1):
        """Undo so many changes, the last one first."""
        _check_number(count, self.moment)
        left = len(self._past) - count
        self._undone = (*self._undone, *self._past[left:][::-1])
        self._past = self._past[:left]

    def redo(self, count=1):
        """Redo so many changes, the one that was undone last first."""
        _check_number(count, self.undone)
        left = len(self._undone) - count
        self._past = (*self._past, *self._undone[left:][::-1])
        self._undone = self._undone[:left]

    def attempt(self, action):
        """Return what action(hall) returns; if an error leaves it, all is as before."""
        past = self._past
        undone = self._undone
        trials = self._trials
        self._trials = trials + 1
        try:
            told = action(self)
            # No error has left the action: what it did stays.
            past = self._past
            undone = self._undone
            return told
        finally:
            self._trials = trials
            self._past = past
            self._undone = undone

    def explore(self, action):
        """Return what action(hall) returns; all is as before in any case."""
        past = self._past
        undone = self._undone
        trials = self._trials
        self._trials = trials + 1
        try:
            return action(self)
        finally:
            self._trials = trials
            self._past = past
            self._undone = undone

    def book_at(self, number):
        """Return the book behind so many of the changes."""
        _check_number(number, self.moment)
        return self._past[number][0]

    def spans(self, chain, person, day):
        """Return the longest stretches of moments at which the chain means the person on the day with this number."""
        found = []
        known = {}
        for moment, entry in enumerate(self._past):
            namings = namings_of(entry[0].on(day))
            # At most moments the same namings hold on the day as at others.
            key = tuple([naming.text for _, naming in namings])
            if key not in known:
                known[key] = person in meant_by(table_by(namings), chain)
            if known[key]:
                begun = found.pop()[0] if found and found[-1][1] == moment - 1 else moment
                found.append((begun, moment))
        return tuple(found)

    def changed(self, first, second, day):
        """Return (gone, come): the tuples (person, name, person) at the first moment alone, and at the second alone.

        The last person of each is meant by the chain of the first two on the day with this number."""
        one = _meanings_on(self.book_at(first), day)
        other = _meanings_on(self.book_at(second), day)
        return (tuple([row for row in one if row not in other]), tuple([row for row in other if row not in one]))


class GuardedHall(Hall):
    """A hall that does not change so that a guard does not hold; closed persons are closed for the guards alone."""

    def __init__(self, book, *guards, closed=()):
        for index, guard in enumerate(guards):
            if not _is_guard(guard):
                raise InvalidGuard(index)
        super().__init__(book)
        self._guards = guards
        self._shut = tuple(closed)
        self._check_guards(book)

    def state(self, *statements):
        """Put the statements behind those of the book, as one change, if all guards hold afterwards."""
        self._check_guards(self.book.with_more(*statements))
        super().state(*statements)

    def take_back(self, *statements):
        """Take the statements out of the book, as one change, if all guards hold afterwards."""
        self._check_guards(book_without(self.book, statements))
        super().take_back(*statements)

    def _check_guards(self, book):
        for index, guard in enumerate(self._guards):
            if not _does_hold(guard, book, self._shut):
                raise Broken(index)


class CountingHall(Hall):
    """A hall that counts for each person how many statements were put in and taken out, whatever was undone."""

    def __init__(self, book):
        super().__init__(book)
        self._counted = {}

    @property
    def counts(self):
        """A dict from persons to (stated, taken)."""
        return {person: self._counted[person] for person in sorted(list(self._counted))}

    def state(self, *statements):
        """Put the statements behind those of the book, as one change, and count them."""
        super().state(*statements)
        for statement in statements:
            stated, taken = self._counted.get(statement.person, (0, 0))
            self._counted[statement.person] = (stated + 1, taken)

    def take_back(self, *statements):
        """Take the statements out of the book, as one change, and count them."""
        super().take_back(*statements)
        for statement in statements:
            stated, taken = self._counted.get(statement.person, (0, 0))
            self._counted[statement.person] = (stated, taken + 1)


class GuardedCountingHall(GuardedHall, CountingHall):
    """A hall that has guards and counts."""

    def __init__(self, book, *guards, closed=()):
        super().__init__(book, *guards, closed=closed)


def book_without(book, statements):
    """Return the book without these statements, any values."""
    for index, statement in enumerate(statements):
        if not isinstance(statement, Naming) and not isinstance(statement, Leave):
            raise InvalidStatement(index)
    for index, statement in enumerate(statements):
        if statement not in book.statements or statement in statements[:index]:
            raise Missing(index)
    gone = [book.statements.index(statement) for statement in statements]
    return book.without(*gone)


def _check_number(value, most):
    """Raise OutOfRange for any value that is not an integer from 0 to most."""
    if not is_integer_in(value, 0, most):
        raise OutOfRange(value)


def _meanings_on(book, day):
    """Return a dict whose keys are all (person, name, person), the last one meant by the chain of the first two."""
    table = table_of(book.on(day))
    return {(person, name, meant): True for (person, name), persons in table.items() for meant in persons}


def _is_guard(value):
    """Tell whether the value is a guard of one of both forms."""
    if not isinstance(value, tuple) or len(value) != 3 or not is_chain(value[1], MAX_ASKED):
        return False
    return (value[0] == "never" and is_word(value[2])) or (value[0] == "within" and is_chain(value[2], MAX_ASKED))


def _does_hold(guard, book, closed):
    """Tell whether the guard holds for the book: on every day, in every future."""
    kind, chain, other = guard
    known = set()
    for number in book.changes():
        day = book.on(number)
        # Where the same namings hold, the answer is the same.
        if day.namings not in known:
            known.add(day.namings)
            broken = can_come(day, chain, other, closed) if kind == "never" else parted(day, chain, other, closed)
            if broken is not None:
                return False
    return True
