"""Tables of sets of chains [30], worked out anew in the plainest way, to compare the program with."""

import itertools


def leads_into(table, state, words):
    """Whether the words lead by moves from the state to one that is in the set."""
    for word in words:
        further = [lead for name, lead in table[state][1] if name == word]
        if not further:
            return False
        state = further[0]
    return table[state][0]


def words_of(table):
    return sorted({word for _, moves in table for word, _ in moves})


def rows_from(table, state, most):
    """All rows of at most so many words that lead from the state into the set."""
    words = words_of(table)
    return {row for many in range(most + 1) for row in itertools.product(words, repeat=many)
            if leads_into(table, state, row)}


def chains_up_to(table, most):
    """All chains of at most so many words in the table's set, in the order of [3]."""
    return sorted(rows_from(table, 0, most), key=lambda chain: (len(chain), chain))


def least(table):
    """The least table, by what the states of a small table lead to.

    Two states of a table with n states that do not lead to the same rows differ in a row of less than n words."""
    kinds = [frozenset(rows_from(table, state, len(table))) for state in range(len(table))]
    if not kinds[0]:
        return ((False, ()),)
    met = [0]
    found = []
    for state in met:
        moves = []
        for word, lead in sorted(table[state][1]):
            if kinds[lead]:
                if kinds[lead] not in [kinds[other] for other in met]:
                    met.append(lead)
                moves.append((word, [kinds[other] for other in met].index(kinds[lead])))
        found.append((table[state][0], tuple(moves)))
    return tuple(found)


def random_table(source, states, words=("a", "b")):
    """A table of so many states, moves in any order; the same for the same source."""
    rows = []
    for at in range(states):
        moves = [(word, source.randrange(states)) for word in words if source.random() < 0.7]
        source.shuffle(moves)
        rows.append((at > 0 and source.random() < 0.4, tuple(moves)))
    return tuple(rows)


def ring(states, inside, words=("a",)):
    """A table: person p leads to a ring of so many states, of which those inside are in the set."""
    rows = [(at in inside, tuple([(word, 1 + (at + 1) % states) for word in words])) for at in range(states)]
    return ((False, (("p", 1),)), *rows)
