"""Machines for all chains that come of the chains of a set, and for all chains of which they come [32].

Namings are passed as a list of tuples (index, naming), the set by a table of it. A pair is a tuple (person, name).
"""

from namechains.machines import Machine, merged, states_behind


def forward_machine(namings, table):
    """Return the machine that reads all chains that come of chains of the set.

    What is behind a pair is behind the chain of each Naming of this pair, too: the names of that chain lead, through
    states of their own, to all that is behind the pair, until nothing more is found there."""
    known = _steps_of(table)
    links = [link for _, naming in namings for link in _links_of(naming)]
    own = {begun: len(known) + at for at, begun in enumerate(sorted(set([link[0] for link in links])))}
    behind = {(naming.person, naming.name): () for _, naming in namings}
    while True:
        heads = _forward_heads(namings, known[0], own, behind)
        steps = known + _own_steps(links, own, behind)
        grown = {(person, name): states_behind(steps, heads.get(person, ()), name) for person, name in behind}
        if grown == behind:
            return Machine(heads, steps, _ends_of(table))
        behind = grown


def backward_machine(namings, table):
    """Return the machine that reads all chains of which chains of the set come.

    Each person who states something has a state of its own. A name leads from there to all that is behind the chains
    of the Namings of this pair, until nothing more is found there."""
    known = _steps_of(table)
    stating = sorted(set([naming.person for _, naming in namings]))
    heads = {person: states for person, states in known[0].items()}
    for at, person in enumerate(stating):
        heads[person] = merged(heads.get(person, ()), (len(known) + at,))
    behind = {(naming.person, naming.name): () for _, naming in namings}
    while True:
        steps = known + [{name: behind[owner, name] for owner, name in behind if owner == person} for person in stating]
        grown = _behind_chains(namings, heads, steps)
        if grown == behind:
            return Machine(heads, steps, _ends_of(table))
        behind = grown


def _steps_of(table):
    """Return for each state of the table a dict from the words of its moves to sets of one state."""
    return [{word: (lead,) for word, lead in moves} for _, moves in table]


def _ends_of(table):
    """Return a dict whose keys are the states of the table that are in the set of chains."""
    return {at: True for at, (is_in, _) in enumerate(table) if is_in}


def _links_of(naming):
    """Return tuples (from, name, to) that lead from the person of the Naming's chain by its names to its pair.

    A person stands as (person,), the pair with names that are still to come as (person, name, *names)."""
    names = naming.chain[1:]
    places = [(naming.person, naming.name, *names[at:]) for at in range(1, len(names) + 1)]
    return [(begun, name, place) for begun, name, place in zip([naming.chain[:1], *places], names, places)]


def _own_steps(links, own, behind):
    """Return the steps of the own states, in their order."""
    steps = {begun: {} for begun in own}
    for begun, name, place in links:
        states = behind[place] if len(place) == 2 else (own[place],)
        steps[begun][name] = merged(steps[begun].get(name, ()), states)
    return list(steps.values())


def _forward_heads(namings, starts, own, behind):
    """Return for each person the states behind it, by what is behind each pair so far."""
    heads = {person: states for person, states in starts.items()}
    for _, naming in namings:
        begun = naming.chain[:1]
        states = behind[naming.person, naming.name] if begun == naming.chain else (own[begun],)
        heads[begun[0]] = merged(heads.get(begun[0], ()), states)
    return heads


def _behind_chains(namings, heads, steps):
    """Return for each pair the states that are behind the chains of its Namings."""
    behind = {}
    for _, naming in namings:
        states = heads.get(naming.chain[0], ())
        for name in naming.chain[1:]:
            states = states_behind(steps, states, name)
        pair = (naming.person, naming.name)
        behind[pair] = merged(behind.get(pair, ()), states)
    return behind
