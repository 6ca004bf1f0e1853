"""Reads the rows that a desk can be asked (section 10)."""

from namechains.errors import InvalidText
from namechains.limits import LIMIT, MAX_ASKED
from namechains.reader import Reader
from namechains.texts import read_statement

# How many names, how large groups and how many persons a row can name at the most.
MAX_COUNTED = 300
MAX_SIZE = 3
MAX_GROUP = 8

# What stands behind the first word of a row; signs stand for themselves.
FORMS = {
    "undo": ("changes",), "redo": ("changes",), "book": (), "means": ("number", "chain"),
    "is": ("number", "chain", ":", "person"), "comes": ("number", "chain", ":", "chain"),
    "chains": ("number", "chain"), "names": ("number", "person"), "count": ("number", "names", "chain"),
    "within": ("number", "chain", ":", "chain", "closed"), "steps": ("number", "chain", ":", "person"),
    "may": ("number", "number", "person", ":", "persons"), "groups": ("number", "number", "size", "person"),
    "area": ("person", ":", "persons"),
}


def read_row(row):
    """Return (first word, list of values) of the row, any value; raise InvalidText if it is none that can be asked.

    Rows to load and to try are not told of here."""
    if not isinstance(row, str):
        raise InvalidText(0)
    word, _, rest = row.partition(" ")
    if word == "state" or word == "take":
        return (word, [read_statement(rest)])
    if word not in FORMS:
        raise InvalidText(0)
    reader = Reader(row)
    reader.take_sign(word)
    values = [_value(reader, part) for part in FORMS[word]]
    reader.finish()
    return (word, [value for value, part in zip(values, FORMS[word]) if part != ":"])


def _value(reader, part):
    """Take the part of a row and return its value."""
    if part == ":":
        return reader.take_sign(":")
    if part == "chain":
        return reader.take_chain(MAX_ASKED)
    if part == "person":
        return reader.take_word()
    if part == "persons":
        return _persons(reader)
    if part == "closed":
        return _closed(reader)
    return _number(reader, part)


def _number(reader, part):
    """Take the part of a row that is a number and return it."""
    if part == "changes" and reader.is_at_end():
        return 1
    if part == "size":
        return reader.take_number(1, MAX_SIZE)
    return reader.take_number(0, MAX_COUNTED if part == "names" else LIMIT)


def _persons(reader):
    """Take persons, one to eight, ascending and different, and return them."""
    persons = [reader.take_word()]
    while reader.is_word_next() and len(persons) < MAX_GROUP:
        place = reader.place
        persons.append(reader.take_word())
        if persons[-1] <= persons[-2]:
            raise InvalidText(place)
    return persons


def _closed(reader):
    """Take persons behind a sign, if it comes next, and return them."""
    if not reader.is_next("!"):
        return []
    reader.take_sign("!")
    return _persons(reader)
