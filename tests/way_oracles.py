"""The document's sentences on ways, worked out anew in the plainest way, to compare the program with."""


def rewritten(day, chain):
    """All (index, chain) such that the naming with this index rewrites the chain to that one."""
    found = []
    for index in day.namings:
        naming = day.book[index]
        if chain[:2] == (naming.person, naming.name):
            found.append((index, naming.chain + chain[2:]))
    return found


def ways_listed(day, chain, person, most, names=None):
    """All ways to the person of at most so many rewritings that pass chains with at most so many names."""
    found = []
    begun = [((), chain)] if names is None or len(chain) - 1 <= names else []
    for _ in range(most + 1):
        further = []
        for way, reached in begun:
            if reached == (person,):
                found.append(way)
            for index, other in rewritten(day, reached):
                if names is None or len(other) - 1 <= names:
                    further.append(((*way, index), other))
        begun = further
    return found


def counts(day, chain, person, most, names=None):
    """How many ways to the person there are of each length, up to the greatest one, without listing them."""
    numbers = []
    reached = {chain: 1} if names is None or len(chain) - 1 <= names else {}
    for _ in range(most + 1):
        numbers.append(reached.get((person,), 0))
        further = {}
        for one, many in reached.items():
            for _, other in rewritten(day, one):
                if names is None or len(other) - 1 <= names:
                    further[other] = further.get(other, 0) + many
        reached = further
    return numbers
