"""A desk does what rows of text say (section 10)."""

from namechains.areas import area
from namechains.books import Book
from namechains.errors import InvalidRow, InvalidText
from namechains.futures import parted
from namechains.halls import Hall
from namechains.meaning import means
from namechains.rewriting import comes_of, meanings, names_of
from namechains.rights import least_groups, may
from namechains.rows import read_row
from namechains.texts import read_book, write_book, write_names
from namechains.ways import steps


def _state(hall, statement):
    hall.state(statement)
    return "ok"


def _take(hall, statement):
    hall.take_back(statement)
    return "ok"


def _undo(hall, count):
    hall.undo(count)
    return "ok"


def _redo(hall, count):
    hall.redo(count)
    return "ok"


def _book(hall):
    return write_book(hall.book)


def _means(hall, number, chain):
    return " ".join(means(hall.book.on(number), chain))


def _is(hall, number, chain, person):
    return _yes_or_no(person in means(hall.book.on(number), chain))


def _comes(hall, number, one, other):
    return _yes_or_no(comes_of(hall.book.on(number), one, other))


def _chains(hall, number, chain):
    return write_names(meanings(hall.book.on(number), chain))


def _names(hall, number, person):
    return write_names(names_of(hall.book.on(number), person))


def _count(hall, number, names, chain):
    return str(meanings(hall.book.on(number), chain).count(names))


def _within(hall, number, one, other, closed):
    apart = parted(hall.book.on(number), one, other, closed)
    return "yes" if apart is None else " ".join(["no", *apart[0]])


def _steps(hall, number, chain, person):
    return str(steps(hall.book.on(number), chain, person))


def _may(hall, number, tag, owner, group):
    return _yes_or_no(may(hall.book.on(number), owner, group, tag))


def _groups(hall, number, tag, most, owner):
    return " / ".join([" ".join(group) for group in least_groups(hall.book.on(number), owner, tag, most)])


def _area(hall, owner, group):
    lines = [_area_line(days, tags) for days, tags in area(hall.book, owner, group).rows]
    return "\n".join(lines)


def _area_line(days, tags):
    stretches = " ".join([f"{first} {last}" for first, last in tags])
    return f"{days[0]} {days[1]} : {stretches}"


def _yes_or_no(is_so):
    return "yes" if is_so else "no"


# What answers a row, by its first word.
ANSWERS = {
    "state": _state, "take": _take, "undo": _undo, "redo": _redo, "book": _book, "means": _means, "is": _is,
    "comes": _comes, "chains": _chains, "names": _names, "count": _count, "within": _within, "steps": _steps,
    "may": _may, "groups": _groups, "area": _area,
}


class Desk:
    """A hall that is asked and changed by rows of text; at first it is that of the empty book."""

    def __init__(self):
        self._hall = Hall(Book())

    @property
    def hall(self):
        """The Hall of the desk."""
        return self._hall

    def say(self, row):
        """Do what the row says, any value, and return the answer."""
        if isinstance(row, str) and row.startswith("load\n"):
            self._hall = Hall(read_book(row[len("load\n"):]))
            return "ok"
        is_tried = isinstance(row, str) and row.startswith("try ")
        asked = row[len("try "):] if is_tried else row
        try:
            word, values = read_row(asked)
        except InvalidText:
            raise InvalidRow(row)
        if is_tried:
            return self._hall.explore(lambda hall: _answer(hall, word, values))
        return _answer(self._hall, word, values)


def _answer(hall, word, values):
    """Return what the hall answers to the row with this first word and these values."""
    action = ANSWERS[word]
    found = action(hall, *values)
    return found if found else "-"
