"""Classes of the states of a table: those of one class lead to True by the same rows of words.

What stands here runs behind operators and properties of Names: it changes only what it has created itself.
"""

from namechains.graphs import grouped, leads_of, turned


def classes_of(table):
    """Return for each state the number of its class; moves are ascending, and from each state some words lead to True.

    A class parts for as long as moves by one word lead from it to several classes. Its greatest part keeps the
    number: so each state seldom gets a new one, and only the states that lead to it are looked at again."""
    sources = turned(leads_of(table))
    class_of = list(_first_classes(table))
    members = list(grouped([(number, state) for state, number in enumerate(class_of)], max(class_of) + 1))
    sizes = [len(states) for states in members]
    doubtful = list(range(len(table)))
    while doubtful:
        moved = []
        for parts in _parts(table, class_of, doubtful):
            number = class_of[parts[0][0]]
            leaving = parts
            if sizes[number] - sum([len(part) for part in parts]) < len(parts[-1]):
                certain = _without(members[number], number, class_of, parts)
                members[number] = parts[-1]
                leaving = [part for part in [*parts[:-1], certain] if part]
            for part in leaving:
                for state in part:
                    class_of[state] = len(members)
                sizes[number] = sizes[number] - len(part)
                sizes.append(len(part))
                members.append(part)
                moved.extend(part)
        doubtful = sorted({source for state in moved for source in sources[state]})
    return class_of


def _first_classes(table):
    """Return for each state the number of the class of those with the same words that are alike in the set or not."""
    number = {}
    found = []
    for is_in, moves in table:
        kind = (is_in, tuple([word for word, _ in moves]))
        if kind not in number:
            number[kind] = len(number)
        found.append(number[kind])
    return found


def _parts(table, class_of, doubtful):
    """Return for each class with doubtful states lists of those that lead to the same classes; the longest is last."""
    keyed = sorted([
        (class_of[state], tuple([class_of[lead] for _, lead in table[state][1]]), state) for state in doubtful])
    found = []
    at = 0
    while at < len(keyed):
        number = keyed[at][0]
        parts = []
        while at < len(keyed) and keyed[at][0] == number:
            first = at
            while at < len(keyed) and keyed[at][:2] == keyed[first][:2]:
                at += 1
            parts.append([state for _, _, state in keyed[first:at]])
        found.append(sorted(parts, key=len))
    return found


def _without(states, number, class_of, parts):
    """Return those of the states that are still in the class with this number and in none of the parts."""
    gone = {}
    for part in parts:
        for state in part:
            gone[state] = True
    return [state for state in states if class_of[state] == number and state not in gone]
