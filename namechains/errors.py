"""The errors of the document (section 11), each one directly below an error of Python.

They have no messages of their own: made by position, as the program makes them, they show their fields.
"""


class InvalidWord(ValueError):
    """The value is no word: a string of 1 to 8 letters from a to z."""

    def __init__(self, value):
        self.value = value


class InvalidChain(ValueError):
    """The value is no chain that may stand here."""

    def __init__(self, value):
        self.value = value


class InvalidStretch(ValueError):
    """The value is no stretch: a tuple (first, last) of days or of tags."""

    def __init__(self, value):
        self.value = value


class InvalidSubject(ValueError):
    """The value is no subject of a Leave."""

    def __init__(self, value):
        self.value = value


class InvalidTimes(ValueError):
    """The value does not tell how often a Leave may be passed on."""

    def __init__(self, value):
        self.value = value


class InvalidDay(ValueError):
    """The value is no day: an integer from 0 to LIMIT."""

    def __init__(self, value):
        self.value = value


class InvalidTable(ValueError):
    """The value is no table of a set of chains."""

    def __init__(self, value):
        self.value = value


class InvalidCount(ValueError):
    """The value is no number of names that may be asked about."""

    def __init__(self, value):
        self.value = value


class InvalidLogs(ValueError):
    """The value is no dict from persons to strings."""

    def __init__(self, value):
        self.value = value


class InvalidStatement(ValueError):
    """The argument with this index is no Naming and no Leave."""

    def __init__(self, index):
        self.index = index


class InvalidPart(ValueError):
    """The argument with this index is no part of an area."""

    def __init__(self, index):
        self.index = index


class InvalidGuard(ValueError):
    """The guard with this index has none of the forms of guards."""

    def __init__(self, index):
        self.index = index


class InvalidText(ValueError):
    """The piece with this index cannot stand in the text of a statement."""

    def __init__(self, index):
        self.index = index


class InvalidLine(ValueError):
    """The piece with this index cannot stand in the line with this number."""

    def __init__(self, line, index):
        self.line = line
        self.index = index


class InvalidRow(ValueError):
    """The row is none that a desk understands."""

    def __init__(self, row):
        self.row = row


class Repeated(ValueError):
    """The argument with this index is equal to a statement that is there already."""

    def __init__(self, index):
        self.index = index


class NotDone(ValueError):
    """The value at this index cannot be done as the next step of a way."""

    def __init__(self, index):
        self.index = index


class NotLeast(ValueError):
    """The lines have the right form, but are the text of no Names."""

    def __init__(self):
        super().__init__()


class OutOfRange(LookupError):
    """The value is none of those that may stand here."""

    def __init__(self, value):
        self.value = value


class NotMeant(LookupError):
    """The person with this word is not meant."""

    def __init__(self, word):
        self.word = word


class Missing(LookupError):
    """The argument with this index is not in the book."""

    def __init__(self, index):
        self.index = index


class TooMany(OverflowError):
    """There are more than this limit allows."""

    def __init__(self, limit):
        self.limit = limit


class Broken(RuntimeError):
    """The guard with this index does not hold."""

    def __init__(self, index):
        self.index = index


class Closed(RuntimeError):
    """The argument with this index is a statement of a closed person."""

    def __init__(self, index):
        self.index = index


class Forked(RuntimeError):
    """Two logs of the person with this word differ in the line with this number."""

    def __init__(self, word, line):
        self.word = word
        self.line = line
