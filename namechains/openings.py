"""What open persons can bring about (section 5): certain namings, chains that open, statements that make chains mean.

Namings are lists of tuples (index, naming); a table is a dict from pairs (person, name) to persons.
"""

from namechains.checks import is_word
from namechains.lines import namings_of
from namechains.proofs import is_covered
from namechains.statements import Naming

LETTERS = "abcdefghijklmnopqrstuvwxyz"


def certain_namings(day, closed, kept):
    """Return the namings that every future of the day has."""
    return [(index, naming) for index, naming in namings_of(day) if kept or naming.person in closed]


def opening_pairs(table, namings, closed):
    """Return a dict whose keys are the pairs (person, name) of closed persons of which open chains come."""
    pairs = {}
    before = -1
    while before < len(pairs):
        before = len(pairs)
        for _, naming in namings:
            if naming.person in closed and does_open(table, pairs, closed, naming.chain):
                pairs[naming.person, naming.name] = True
    return pairs


def does_open(table, pairs, closed, chain):
    """Tell whether the chain opens [44] by the table and the pairs."""
    reached = [chain[0]]
    for name in chain[1:]:
        if any([person not in closed or (person, name) in pairs for person in reached]):
            return True
        reached = sorted({further for person in reached for further in table.get((person, name), ())})
    return False


def are_pairs(value):
    """Tell whether the value is a tuple of different tuples (person, name)."""
    if not isinstance(value, tuple) or not all([_is_pair(pair) for pair in value]):
        return False
    return len(set(value)) == len(value)


def are_kept(table, pairs, namings, closed):
    """Tell whether the namings keep to a table and to pairs of a never paper [44].

    The table has all that they tell, and the pairs have all those of closed persons whose chains open."""
    for _, naming in namings:
        if not is_covered(table, naming):
            return False
        if (naming.person in closed and (naming.person, naming.name) not in pairs
                and does_open(table, pairs, closed, naming.chain)):
            return False
    return True


def open_chain(machine, closed):
    """Return one of the shortest open chains that the machine reads; there is one."""
    persons = [person for person in sorted(list(machine.heads)) if person not in closed]
    queue = [((person,), state) for person in persons for state in machine.heads[person]]
    met = set()
    done = 0
    while len(queue[done][0]) == 1 or queue[done][1] not in machine.ends:
        words, state = queue[done]
        done += 1
        for name in sorted(list(machine.steps[state])):
            for lead in machine.steps[state][name]:
                if lead not in met:
                    met.add(lead)
                    queue.append(((*words, name), lead))
    return queue[done][0]


def statements_for(chain, person):
    """Return Namings of the person of the chain, which has a name, with which the chain means the person."""
    owner = chain[0]
    # Each name but the last one leads back to the owner.
    passed = [Naming(owner, name, (owner,)) for name in sorted(set(chain[1:-1]))]
    return (*passed, Naming(owner, chain[-1], (person,)))


def new_path(chain, used):
    """Return Namings by which the chain means a person who is not in used, and of whom no other chain can make use.

    Each person on the way is new, so it is met by chains alone from which the whole chain comes. For a bare chain
    there is nothing to state."""
    persons = [chain[0], *new_words(len(chain) - 1, used)]
    return tuple([Naming(persons[at], name, (persons[at + 1],)) for at, name in enumerate(chain[1:])])


def new_words(count, used):
    """Return so many words that are not in used, shorter ones first."""
    found = []
    words = [""]
    while len(found) < count:
        words = [word + letter for word in words for letter in LETTERS]
        found.extend([word for word in words if word not in used])
    return found[:count]


def _is_pair(value):
    return isinstance(value, tuple) and len(value) == 2 and is_word(value[0]) and is_word(value[1])
