"""Machines that read chains: they tell sets of chains by states, of which several may be behind one row of words.

A set of states is an ascending tuple of their numbers.
"""

from namechains.graphs import reached_from, turned


class Machine:
    """heads tells for a person, steps for each state and for a name which states are behind it.

    heads is a dict from persons, steps a list of dicts from names, to sets of states. A chain is read if one of the
    states behind it is a key of the dict ends. Only states from which ends are reached are kept in heads and steps."""

    def __init__(self, heads, steps, ends):
        leads = [[lead for states in step.values() for lead in states] for step in steps]
        useful = reached_from(list(ends), turned(leads))
        self.heads = _kept(heads, useful)
        self.steps = [_kept(step, useful) for step in steps]
        self.ends = ends

    def has_end(self, states):
        """Tell whether a chain may end in one of these states."""
        return any([state in self.ends for state in states])


def states_behind(steps, states, name):
    """Return the set of the states that are behind the name from one of these states."""
    return tuple(sorted({lead for state in states for lead in steps[state].get(name, ())}))


def merged(one, other):
    """Return the set of the states of both sets."""
    return tuple(sorted(set(one + other)))


def reads(machine, chain):
    """Tell whether the machine reads the chain."""
    states = machine.heads.get(chain[0], ())
    for name in chain[1:]:
        states = states_behind(machine.steps, states, name)
    return machine.has_end(states)


def table_read(machine):
    """Return a table of all chains that the machine reads."""
    # Each state of the table is a set of states. No word leads to the empty set, so it can stand for state 0.
    sets = [()]
    number = {(): 0}
    table = []
    while len(table) < len(sets):
        states = sets[len(table)]
        behind = _all_behind(machine.steps, states) if table else machine.heads
        moves = []
        for word in sorted(list(behind)):
            lead = behind[word]
            if lead not in number:
                number[lead] = len(sets)
                sets.append(lead)
            moves.append((word, number[lead]))
        table.append((machine.has_end(states), tuple(moves)))
    return tuple(table)


def only_bare(machine, persons):
    """Return the machine that reads the same chains, but of those of these persons only the bare ones."""
    # The state behind such a bare chain: nothing goes on from it.
    last = len(machine.steps)
    heads = {}
    for person, states in machine.heads.items():
        if person not in persons:
            heads[person] = states
        elif machine.has_end(states):
            heads[person] = (last,)
    return Machine(heads, [*machine.steps, {}], {**machine.ends, last: True})


def _all_behind(steps, states):
    """Return a dict from each name to the set of the states that are behind it from one of these states."""
    behind = {}
    for state in states:
        for name, leads in steps[state].items():
            behind.setdefault(name, []).extend(leads)
    return {name: tuple(sorted(set(behind[name]))) for name in behind}


def _kept(leads, useful):
    """Return the dict without the states that are not useful, and without words behind which none is left."""
    kept = {word: tuple([state for state in states if state in useful]) for word, states in leads.items()}
    return {word: states for word, states in kept.items() if states}
