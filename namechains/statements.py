"""What persons state (section 2): whom they call by a name, and what others may do for them."""

from namechains.checks import is_chain, is_stretch, is_subject, is_times, is_word
from namechains.errors import InvalidChain, InvalidStretch, InvalidSubject, InvalidTimes, InvalidWord
from namechains.limits import LIMIT, MAX_NAMES
from namechains.wording import leave_text, naming_text


class Statement:
    """What every statement has; a statement is a Naming or a Leave."""

    def __init__(self, person, days, text):
        self._person = person
        self._days = days
        self._text = text

    @property
    def person(self):
        """The person who states it."""
        return self._person

    @property
    def days(self):
        """The stretch of the days on which it holds."""
        return self._days

    @property
    def text(self):
        """The text of the statement."""
        return self._text

    def is_of(self, number):
        """Tell whether the days of the statement have the day with this number."""
        first, last = self._days
        return first <= number <= last


class Naming(Statement):
    """The person calls by the name all whom the chain means."""

    def __init__(self, person, name, chain, days=None):
        _check_word(person)
        _check_word(name)
        if not is_chain(chain, MAX_NAMES):
            raise InvalidChain(chain)
        stretch = _checked_days(days)
        super().__init__(person, stretch, naming_text(person, name, chain, stretch))
        self._name = name
        self._chain = chain

    @property
    def name(self):
        """The name by which the person calls those whom the chain means."""
        return self._name

    @property
    def chain(self):
        """The chain that means those who are called by the name."""
        return self._chain

    def __eq__(self, other):
        return (isinstance(other, Naming) and self.person == other.person and self.name == other.name
                and self.chain == other.chain and self.days == other.days)


class Leave(Statement):
    """The person lets the subject do the tags; times bounds how often that may be passed on."""

    def __init__(self, person, subject, tags, days=None, times=None):
        _check_word(person)
        if not is_subject(subject):
            raise InvalidSubject(subject)
        _check_stretch(tags)
        stretch = _checked_days(days)
        if not is_times(times):
            raise InvalidTimes(times)
        super().__init__(person, stretch, leave_text(person, subject, tags, stretch, times))
        self._subject = subject
        self._tags = tags
        self._times = times

    @property
    def subject(self):
        """Who may do the tags: a chain, or (k, chains), k of which are needed."""
        return self._subject

    @property
    def tags(self):
        """The stretch of the tags that the subject may do."""
        return self._tags

    @property
    def times(self):
        """How often it may be passed on; None without a bound."""
        return self._times

    def __eq__(self, other):
        return (isinstance(other, Leave) and self.person == other.person and self.subject == other.subject
                and self.tags == other.tags and self.days == other.days and self.times == other.times)


def _check_word(value):
    if not is_word(value):
        raise InvalidWord(value)


def _check_stretch(value):
    if not is_stretch(value):
        raise InvalidStretch(value)


def _checked_days(value):
    """Return the stretch that the value stands for: None stands for all days."""
    if value is None:
        return (0, LIMIT)
    _check_stretch(value)
    return value
