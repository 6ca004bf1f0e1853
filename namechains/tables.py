"""Tables of sets of chains (section 4): tuples of states (is_in, moves), moves tuples of (word, index of a state).

What stands here runs behind operators and properties of Names: it changes only what it has created itself.
"""

from namechains.checks import is_integer_in, is_word
from namechains.classes import classes_of
from namechains.graphs import grouped, leads_of, reached_from, turned

# The least table of the set without chains.
EMPTY = ((False, ()),)


def is_table(value, most):
    """Tell whether the value is a table of 1 to so many states in which state 0 is not in the set."""
    if not isinstance(value, tuple) or not 1 <= len(value) <= most:
        return False
    return all([_is_state(state, len(value)) for state in value]) and not value[0][0]


def table_of_chains(chains):
    """Return a table of the set of these chains; they may have any number of names."""
    # Each beginning of a chain has a state of its own; the empty one comes first, as state 0 must.
    begun = sorted(set([()] + [chain[:length] for chain in chains for length in range(1, len(chain) + 1)]))
    number = {}
    for at, words in enumerate(begun):
        number[words] = at
    moves = grouped([(number[words[:-1]], (words[-1], number[words])) for words in begun if words], len(begun))
    whole = set(chains)
    return tuple([(words in whole, tuple(row)) for words, row in zip(begun, moves)])


def least_table(table):
    """Return the least table of the set that this table tells."""
    trimmed = _trimmed(table)
    return _numbered(trimmed, classes_of(trimmed)) if trimmed else EMPTY


def combined(one, other, in_one, in_both, in_other):
    """Return a table of those chains that are asked for: in the first set only, in both, in the other one only.

    All its states are reached; moves are ascending."""
    ones = [dict(moves) for _, moves in one]
    others = [dict(moves) for _, moves in other]
    # Where words lead to a state in one of the tables only, None stands for the other one's.
    pairs = [(0, 0)]
    number = {(0, 0): 0}
    states = []
    while len(states) < len(pairs):
        at, beside = pairs[len(states)]
        here = {} if at is None else ones[at]
        there = {} if beside is None else others[beside]
        leads = []
        for word in sorted([*here, *[word for word in there if word not in here]]):
            pair = (here.get(word), there.get(word))
            if (pair[0] is not None or in_other) and (pair[1] is not None or in_one):
                if pair not in number:
                    number[pair] = len(pairs)
                    pairs.append(pair)
                leads.append((word, number[pair]))
        is_here = at is not None and one[at][0]
        is_there = beside is not None and other[beside][0]
        is_in = (in_both if is_there else in_one) if is_here else is_there and in_other
        states.append((is_in, tuple(leads)))
    return tuple(states)


def state_behind(table, words):
    """Return the state to which the words lead from state 0; None if they lead to none."""
    state = 0
    for word in words:
        state = dict(table[state][1]).get(word)
        if state is None:
            return None
    return state


def table_led_by(words, table, state):
    """Return a table of all that the words and what leads from this state of the table into its set make together."""
    many = len(words)
    leads = list(range(1, many)) + [many + state]
    front = [(False, ((word, lead),)) for word, lead in zip(words, leads)]
    return tuple(front + _moved_by(table, many))


def table_without(table, pairs):
    """Return a table of the chains of the set whose person and first name are none of these pairs."""
    # The state behind each person is needed anew: other words may lead to the one that is there.
    persons = table[0][1]
    many = 1 + len(persons)
    starts = []
    anew = []
    behind = _moved_by(table, many)
    for person, lead in persons:
        is_in, moves = behind[lead]
        starts.append((person, len(starts) + 1))
        anew.append((is_in, tuple([(name, further) for name, further in moves if (person, name) not in pairs])))
    return ((False, tuple(starts)), *anew, *behind)


def _moved_by(table, many):
    """Return a list of the states of the table as they are if so many others stand ahead of them."""
    return [(is_in, tuple([(word, many + lead) for word, lead in moves])) for is_in, moves in table]


def _is_state(value, count):
    """Tell whether the value is a state of a table with so many states."""
    if not isinstance(value, tuple) or len(value) != 2:
        return False
    is_in, moves = value
    if not isinstance(is_in, bool) or not isinstance(moves, tuple):
        return False
    if not all([_is_move(move, count) for move in moves]):
        return False
    return len(set([word for word, _ in moves])) == len(moves)


def _is_move(value, count):
    """Tell whether the value is a move in a table with so many states."""
    if not isinstance(value, tuple) or len(value) != 2:
        return False
    return is_word(value[0]) and is_integer_in(value[1], 0, count - 1)


def _trimmed(table):
    """Return the table of the states that are reached and from which a chain is reached, with ascending moves.

    It has no states if the set has no chains."""
    leads = leads_of(table)
    reached = reached_from([0], leads)
    useful = reached_from([state for state in reached if table[state][0]], turned(leads))
    kept = [state for state in range(len(table)) if state in reached and state in useful]
    number = {}
    for at, state in enumerate(kept):
        number[state] = at
    states = []
    for state in kept:
        is_in, moves = table[state]
        states.append((is_in, tuple(sorted([(word, number[lead]) for word, lead in moves if lead in number]))))
    return tuple(states)


def _numbered(table, class_of):
    """Return the table of the classes of states, which get numbers as they are met from state 0 on."""
    number = {class_of[0]: 0}
    # The first state that is met of each class.
    met = [0]
    states = []
    while len(states) < len(met):
        is_in, moves = table[met[len(states)]]
        for _, lead in moves:
            if class_of[lead] not in number:
                number[class_of[lead]] = len(met)
                met.append(lead)
        states.append((is_in, tuple([(word, number[class_of[lead]]) for word, lead in moves])))
    return tuple(states)
