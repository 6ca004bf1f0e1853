"""Whom chains mean on a day (section 3).

A table is a dict from pairs (person, name) to the tuples of persons whom they mean.
"""

from namechains.lines import lines_of, namings_of


def means(day, chain):
    """Return the persons whom the chain means, ascending."""
    return meant_by(table_of(day), chain)


def table_of(day):
    """Return a dict from each pair (person, name) that means somebody to these persons, ascending."""
    return table_by(namings_of(day))


def table_by(namings):
    """Return the table of these namings, a list of tuples (index, naming); keys and persons are ascending."""
    meant = {}
    for line in lines_of(namings):
        meant.setdefault((line[0], line[1]), []).append(line[2])
    return {pair: tuple(sorted(meant[pair])) for pair in sorted(list(meant))}


def meant_by(table, chain):
    """Return the persons whom the chain means by the table, ascending."""
    reached = [chain[0]]
    for name in chain[1:]:
        reached = sorted({further for person in reached for further in table.get((person, name), ())})
    return tuple(reached)
