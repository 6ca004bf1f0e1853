"""Texts of statements, books and sets of chains (section 10)."""

from namechains.books import Book
from namechains.checks import is_word
from namechains.errors import InvalidLine, InvalidText, NotLeast
from namechains.languages import Names, Told
from namechains.limits import LIMIT, MAX_CHAINS, MAX_NAMES, MAX_STATEMENTS, MAX_TIMES
from namechains.reader import Reader, is_number
from namechains.statements import Leave, Naming


def read_statement(text):
    """Return the statement with exactly this text, any value."""
    if not isinstance(text, str):
        raise InvalidText(0)
    reader = Reader(text)
    person = reader.take_word()
    if reader.is_next(">"):
        return _leave_behind(reader, person)
    name = reader.take_word()
    reader.take_sign("=")
    chain = reader.take_chain(MAX_NAMES)
    days = _days(reader)
    reader.finish()
    return Naming(person, name, chain, days)


def write_book(book):
    """Return the text of the book: the texts of its statements with a newline between two of them."""
    return "\n".join([statement.text for statement in book.statements])


def read_book(text):
    """Return the Book with exactly this text, any value."""
    if not isinstance(text, str):
        raise InvalidLine(0, 0)
    statements = []
    lines = text.split("\n") if text else []
    for number, line in enumerate(lines):
        if number == MAX_STATEMENTS:
            raise InvalidLine(number, 0)
        statement = _statement_in(line, number)
        if statement in statements:
            raise InvalidLine(number, 0)
        statements.append(statement)
    return Book(*statements)


def write_names(names):
    """Return the text of the set of chains: a line for each state of its table."""
    return "\n".join([_state_text(is_in, moves) for is_in, moves in names.table])


def read_names(text):
    """Return the Names with exactly this text, any value."""
    if not isinstance(text, str):
        raise InvalidLine(0, 0)
    lines = text.split("\n")
    table = tuple([_state_in(line, number, len(lines)) for number, line in enumerate(lines)])
    # In a table of a set state 0 is not in it: there is no chain without a person.
    if table[0][0]:
        raise NotLeast()
    names = Names(Told(table))
    if names.table != table:
        raise NotLeast()
    return names


def _leave_behind(reader, person):
    """Return the Leave of the person whose other pieces the reader has still."""
    reader.take_sign(">")
    subject = _share(reader) if reader.is_next("1", "2", "3", "4") else reader.take_chain(MAX_NAMES)
    reader.take_sign(":")
    first = reader.take_number(0, LIMIT)
    tags = (first, reader.take_number(first, LIMIT))
    days = _days(reader)
    times = None
    if reader.is_next("+"):
        reader.take_sign("+")
        times = reader.take_number(0, MAX_TIMES)
    reader.finish()
    return Leave(person, subject, tags, days, times)


def _share(reader):
    """Take a subject (k, chains) and return it; a sign for its end comes next."""
    many = reader.take_number(1, MAX_CHAINS)
    chains = []
    while not chains or reader.is_next("/"):
        if len(chains) == MAX_CHAINS:
            raise InvalidText(reader.place)
        reader.take_sign("/")
        chains.append(_unlike_chain(reader, chains))
    if len(chains) < many:
        raise InvalidText(reader.place)
    return (many, tuple(chains))


def _unlike_chain(reader, earlier):
    """Take a chain that is none of the earlier ones and return it."""
    chain = (reader.take_word(),)
    while len(chain) <= MAX_NAMES and reader.is_word_next():
        # Behind the last name nothing could make the chain another one.
        place = reader.place
        chain = (*chain, reader.take_word())
        if len(chain) > MAX_NAMES and chain in earlier:
            raise InvalidText(place)
    if chain in earlier:
        raise InvalidText(reader.place)
    return chain


def _days(reader):
    """Take days if they are told, and return them; None for all days, which are not told."""
    if not reader.is_next("@"):
        return None
    reader.take_sign("@")
    first = reader.take_number(0, LIMIT)
    return (first, reader.take_number(first, LIMIT if first else LIMIT - 1))


def _statement_in(line, number):
    """Return the statement in the line with this number of a text of a book."""
    try:
        return read_statement(line)
    except InvalidText as wrong:
        raise InvalidLine(number, wrong.index)


def _state_text(is_in, moves):
    pieces = ["in" if is_in else "out"] + [f"{word}>{lead}" for word, lead in moves]
    return " ".join(pieces)


def _state_in(line, number, count):
    """Return the state of a table of so many states in the line with this number."""
    first, *pieces = line.split(" ")
    if first != "in" and first != "out":
        raise InvalidLine(number, 0)
    moves = []
    for index, piece in enumerate(pieces):
        word, _, lead = piece.partition(">")
        is_greater = is_word(word) and (not moves or moves[-1][0] < word)
        if not is_greater or not is_number(lead, 0, count - 1):
            raise InvalidLine(number, index + 1)
        moves.append((word, int(lead)))
    return (first == "in", tuple(moves))
