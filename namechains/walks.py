"""The chains of a set, found by walking through its least table (section 4).

What stands here, but for chains_in_order, runs behind operators and properties of Names: it changes only what it has
created itself.
"""

from namechains.graphs import leads_of, order_of, turned


def first_words(table, state):
    """Return the first one of the shortest rows of words that lead from this state into the set; None without any.

    From state 0 this is the first chain in the order of [3]. Moves are ascending; the table need not be the least."""
    queue = [state]
    # For each state that is met: from where, and by which word.
    came = {state: None}
    done = 0
    while done < len(queue):
        at = queue[done]
        done += 1
        is_in, moves = table[at]
        if is_in:
            return _words_to(came, at)
        for word, lead in moves:
            if lead not in came:
                came[lead] = (at, word)
                queue.append(lead)
    return None


def words_behind(table):
    """Return the words that stand behind the first one in chains of the set, ascending."""
    # The words of state 0 stand first, and behind only if a word leads back to it.
    is_met_again = any([lead == 0 for _, moves in table for _, lead in moves])
    states = table if is_met_again else table[1:]
    return tuple(sorted(set([word for _, moves in states for word, _ in moves])))


def chains_in_order(table):
    """Tell all chains of the set in the order of [3], perhaps without end."""
    sources = turned(leads_of(table))
    # For each number of words, from 0 on: the states from which so many words lead into the set.
    near = [{at: True for at, (is_in, _) in enumerate(table) if is_in}]
    while near[-1]:
        further = {source: True for at in near[-1] for source in sources[at]}
        near.append(further)
        begun = [(0, ())] if 0 in further else []
        # What is put on last is gone on with first.
        while begun:
            at, words = begun.pop()
            left = len(near) - 1 - len(words)
            if left == 0:
                yield words
            else:
                later = [(lead, (*words, word)) for word, lead in table[at][1] if lead in near[left - 1]]
                begun.extend(later[::-1])


def count_of(table, names):
    """Return how many chains of the set have so many names."""
    leads = leads_of(table)
    ways = {0: 1}
    for _ in range(names + 1):
        further = {}
        for at, many in ways.items():
            for lead in leads[at]:
                further[lead] = further.get(lead, 0) + many
        ways = further
    return sum([many for at, many in ways.items() if table[at][0]])


def size_of(table):
    """Return how many chains the set has; None if there are infinitely many."""
    leads = leads_of(table)
    order = order_of(leads)
    if len(order) < len(table):
        return None
    ways = [0 for _ in table]
    ways[0] = 1
    for at in order:
        for lead in leads[at]:
            ways[lead] = ways[lead] + ways[at]
    return sum([many for many, (is_in, _) in zip(ways, table) if is_in])


def loop_of(table):
    """Return (front, ring, back) as Names.loop does; None for a finite set."""
    ending = order_of(turned(leads_of(table)))
    if len(ending) == len(table):
        return None
    words, met = _walk_to_circle(table, ending)
    begun = met.index(met[-1])
    ring = words[begun:]
    if begun == 0:
        # A front has a word at least, so that the ring begins one word later.
        return (ring[:1], ring[1:] + ring[:1], first_words(table, met[1]))
    return (words[:begun], ring, first_words(table, met[begun]))


def _walk_to_circle(table, ending):
    """Walk from state 0 until a state is met again, never to one that is ending: from which no circle is reached.

    Return the words of the walk and the states that it meets."""
    avoided = {}
    for at in ending:
        avoided[at] = True
    words = []
    met = [0]
    seen = {}
    while met[-1] not in seen:
        seen[met[-1]] = True
        word, lead = [move for move in table[met[-1]][1] if move[1] not in avoided][0]
        words.append(word)
        met.append(lead)
    return tuple(words), met


def _words_to(came, state):
    """Return the words on which the state is met."""
    words = []
    while came[state] is not None:
        state, word = came[state]
        words.append(word)
    return tuple(words[::-1])
