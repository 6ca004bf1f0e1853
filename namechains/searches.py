"""Searches for all least sets of persons of a kind; whatever has a set of the kind as a part is of the kind, too."""


def least_sets(most, is_one, lacks):
    """Return all least sets of at most so many persons as ascending tuples, by their sizes, then ascending.

    is_one(persons) tells whether these are a set of the kind. If they are not, lacks(persons) tells one or several rows
    of persons: each greater set of the kind has a person of each row at least."""
    found = []
    tried = [()]
    for left in range(most, -1, -1):
        longer = {}
        for persons in tried:
            if any([is_part(one, persons) for one in found]):
                continue
            if is_one(persons):
                found.append(persons)
            elif left:
                for person in _candidates(lacks(persons), left):
                    longer[tuple(sorted([*persons, person]))] = True
        tried = sorted(list(longer))
    return found


def is_part(one, other):
    """Tell whether all persons of one are among those of the other."""
    return all([person in other for person in one])


def _candidates(rows, left):
    """Return persons of whom one is put in next, so that no set is missed, if so many may be put in."""
    if left == 1:
        return [person for person in rows[0] if all([person in row for row in rows])]
    return sorted(rows, key=len)[0]
