"""Books of statements, and the days of a book (section 2)."""

from namechains.checks import is_integer_in
from namechains.errors import InvalidDay, InvalidStatement, OutOfRange, Repeated, TooMany
from namechains.limits import LIMIT, MAX_STATEMENTS
from namechains.statements import Leave, Naming
from namechains.subjects import chains_of


class Grown:
    """A Book and statements that stand behind its own, for the package itself: Book takes it in the place of them all.

    They are statements, unlike one another and those of the Book, and not too many."""

    def __init__(self, book, statements):
        self.begun = book
        self.further = statements


class Book:
    """Statements in an order, all unlike; never changed."""

    def __init__(self, *statements):
        if len(statements) == 1 and isinstance(statements[0], Grown):
            begun = statements[0].begun
            further = statements[0].further
            self._statements = begun.statements + further
            self._persons = _merged(begun.persons, _persons_of(further))
            self._names = _merged(begun.names, _names_of(further))
        else:
            _check_statements((), statements)
            self._statements = statements
            self._persons = _merged((), _persons_of(statements))
            self._names = _merged((), _names_of(statements))

    @property
    def statements(self):
        """The statements in their order."""
        return self._statements

    @property
    def persons(self):
        """All persons that occur, ascending."""
        return self._persons

    @property
    def names(self):
        """All names that occur, ascending."""
        return self._names

    def __len__(self):
        return len(self._statements)

    def __getitem__(self, at):
        if not is_integer_in(at, 0, len(self._statements) - 1):
            raise OutOfRange(at)
        return self._statements[at]

    def __iter__(self):
        raise TypeError("a Book is not iterated over: take its statements")

    def __eq__(self, other):
        return isinstance(other, Book) and self.statements == other.statements

    def with_more(self, *statements):
        """Return a Book with these statements behind its own."""
        _check_statements(self._statements, statements)
        return Book(Grown(self, statements))

    def without(self, *indexes):
        """Return a Book without the statements of these indexes."""
        for at, index in enumerate(indexes):
            if not is_integer_in(index, 0, len(self._statements) - 1) or index in indexes[:at]:
                raise OutOfRange(index)
        left = [statement for at, statement in enumerate(self._statements) if at not in indexes]
        return Book(*left)

    def on(self, day):
        """Return the Day with this number."""
        if not is_integer_in(day, 0, LIMIT):
            raise InvalidDay(day)
        return Day(self, day)

    def changes(self):
        """Return 0 and all days on which other statements hold than on the day before, ascending."""
        begun = [statement.days[0] for statement in self._statements]
        # All statements are unlike, so each beginning and each end is a change, whatever else begins or ends then.
        ended = [statement.days[1] + 1 for statement in self._statements if statement.days[1] < LIMIT]
        return tuple(sorted(set([0, *begun, *ended])))


class Day:
    """One day of a book; made by Book.on."""

    def __init__(self, book, number):
        self._book = book
        self._number = number
        held = [at for at, statement in enumerate(book.statements) if statement.is_of(number)]
        self._namings = tuple([at for at in held if isinstance(book[at], Naming)])
        self._leaves = tuple([at for at in held if isinstance(book[at], Leave)])

    @property
    def book(self):
        """The book of this day."""
        return self._book

    @property
    def number(self):
        """The number of the day."""
        return self._number

    @property
    def namings(self):
        """The indexes of the Namings that hold on this day, ascending."""
        return self._namings

    @property
    def leaves(self):
        """The indexes of the Leaves that hold on this day, ascending."""
        return self._leaves

    def __eq__(self, other):
        return isinstance(other, Day) and self.book == other.book and self.number == other.number


def _check_statements(earlier, statements):
    """Raise what is wrong with statements that are to stand behind the earlier ones."""
    for index, statement in enumerate(statements):
        if not isinstance(statement, Naming) and not isinstance(statement, Leave):
            raise InvalidStatement(index)
    if len(earlier) + len(statements) > MAX_STATEMENTS:
        raise TooMany(MAX_STATEMENTS)
    # Statements are equal exactly if their texts are.
    texts = {}
    for statement in earlier:
        texts[statement.text] = True
    for index, statement in enumerate(statements):
        if statement.text in texts:
            raise Repeated(index)
        texts[statement.text] = True


def _chains_of(statement):
    """Return the chains of the statement."""
    return (statement.chain,) if isinstance(statement, Naming) else chains_of(statement.subject)


def _persons_of(statements):
    """Return all persons that occur in the statements, in any order."""
    stating = [statement.person for statement in statements]
    return stating + [chain[0] for statement in statements for chain in _chains_of(statement)]


def _names_of(statements):
    """Return all names that occur in the statements, in any order."""
    stated = [statement.name for statement in statements if isinstance(statement, Naming)]
    return stated + [name for statement in statements for chain in _chains_of(statement) for name in chain[1:]]


def _merged(known, words):
    """Return the words of both, ascending; the known ones are."""
    if all([word in known for word in words]):
        return known
    return tuple(sorted(set([*known, *words])))
