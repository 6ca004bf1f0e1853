"""Sets of chains, perhaps infinite ones (section 4)."""

from namechains.checks import is_chain, is_integer_in, is_word
from namechains.errors import InvalidChain, InvalidCount, InvalidTable
from namechains.limits import MAX_ASKED
from namechains.tables import EMPTY, combined, is_table, least_table, state_behind, table_led_by, table_of_chains
from namechains.walks import chains_in_order, count_of, first_words, loop_of, size_of, words_behind

# States of a table that Names.of_table takes.
MAX_STATES = 60

# The greatest number of names that Names.count takes.
MAX_COUNTED = 300


class Told:
    """Any table, not only a least one, for the package itself: Names takes it in the place of chains."""

    def __init__(self, states):
        self.states = states


class Names:
    """A set of chains; never changed."""

    def __init__(self, *chains):
        if len(chains) == 1 and isinstance(chains[0], Told):
            self._table = least_table(chains[0].states)
        else:
            for chain in chains:
                if not is_chain(chain, MAX_ASKED):
                    raise InvalidChain(chain)
            self._table = least_table(table_of_chains(chains))

    @classmethod
    def of_table(cls, table):
        """Return the set that a table tells, least or not."""
        if not is_table(table, MAX_STATES):
            raise InvalidTable(table)
        return cls(Told(table))

    @property
    def table(self):
        """The least table of the set."""
        return self._table

    @property
    def size(self):
        """How many chains are in the set; None if there are infinitely many."""
        return size_of(self._table)

    @property
    def least(self):
        """The first chain of the set; None if there is none."""
        return first_words(self._table, 0)

    @property
    def persons(self):
        """The words that stand first in chains of the set, ascending."""
        return tuple([word for word, _ in self._table[0][1]])

    @property
    def names(self):
        """The words that stand behind the first one in chains of the set, ascending."""
        return words_behind(self._table)

    def __or__(self, other):
        return Names(Told(combined(self.table, other.table, True, True, True)))

    def __and__(self, other):
        return Names(Told(combined(self.table, other.table, False, True, False)))

    def __sub__(self, other):
        return Names(Told(combined(self.table, other.table, True, False, False)))

    def __eq__(self, other):
        return isinstance(other, Names) and self.table == other.table

    def __contains__(self, x):
        if not isinstance(x, tuple) or not all([is_word(word) for word in x]):
            return False
        state = state_behind(self._table, x)
        return state is not None and self._table[state][0]

    def __bool__(self):
        return bool(self._table[0][1])

    def is_within(self, other):
        """Tell whether each chain of this set is in the other one, too."""
        return first_words(combined(self._table, other.table, True, False, False), 0) is None

    def count(self, number):
        """Return how many chains of the set have so many names."""
        if not is_integer_in(number, 0, MAX_COUNTED):
            raise InvalidCount(number)
        return count_of(self._table, number)

    def ordered(self):
        """Tell all chains of the set in the order of [3], perhaps without end."""
        yield from chains_in_order(self._table)

    def headed(self, chain):
        """Return the set of those chains of this one that begin with the words of the chain."""
        state = state_behind(self._table, chain)
        return Names(Told(EMPTY if state is None else table_led_by(chain, self._table, state)))

    def difference(self, other):
        """Return (which, chain): the first chain that is in one of both sets only; None for equal sets."""
        chain = first_words(combined(self._table, other.table, True, False, True), 0)
        if chain is None:
            return None
        return (0 if chain in self else 1, chain)

    def loop(self):
        """Return (front, ring, back), ring any number of times between both is in the set; None for a finite set."""
        return loop_of(self._table)
