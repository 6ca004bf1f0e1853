"""Namings that others tell already, and days that tell the same (section 5)."""

from namechains.languages import Names, Told
from namechains.lines import namings_of
from namechains.machines import only_bare, table_read
from namechains.meaning import table_by
from namechains.openings import new_path
from namechains.rewriting import comes_by
from namechains.saturation import forward_machine
from namechains.tables import table_of_chains


def needless(day):
    """Return the indexes of the namings whose chains come of their persons and names by the others, ascending."""
    namings = namings_of(day)
    return tuple([index for index, _ in namings if _is_needless(namings, index)])


def needless_now(day):
    """Return the indexes of the namings without each of which all chains mean the same persons, ascending."""
    namings = namings_of(day)
    table = table_by(namings)
    return tuple([index for index, _ in namings if table_by(_without(namings, index)) == table])


def lean(day):
    """Return the indexes of the namings that stay if from the last one on each needless one goes, ascending."""
    left = namings_of(day)
    for index in reversed(list(day.namings)):
        if _is_needless(left, index):
            left = _without(left, index)
    return tuple([index for index, _ in left])


def alike(one, other):
    """Return None if both days tell the same, else (which, index) of the first naming that is told on one day only."""
    for which, day, beside in ((0, one, other), (1, other, one)):
        for index, naming in namings_of(day):
            if not comes_by(namings_of(beside), (naming.person, naming.name), naming.chain):
                return (which, index)
    return None


def told_apart(one, other, closed):
    """Return None if both days stay alike whatever open persons state, else (which, start, chain, statements).

    With the statements start means a person on the day which that it does not mean on the other one."""
    used = [*one.book.persons, *other.book.persons, *closed]
    starts = sorted({(naming.person, naming.name) for day in (one, other) for _, naming in namings_of(day)})
    for start in starts:
        first = _reached(one, start, closed)
        second = _reached(other, start, closed)
        for which, apart in ((0, first - second), (1, second - first)):
            if apart:
                return (which, start, apart.least, new_path(apart.least, used))
    return None


def _reached(day, start, closed):
    """Return the Names of the bare and open chains that come of the chain start by all namings of the day."""
    machine = forward_machine(namings_of(day), table_of_chains([start]))
    return Names(Told(table_read(only_bare(machine, closed))))


def _is_needless(namings, index):
    """Tell whether the naming with this index, which is one of them, is told by the others."""
    naming = dict(namings)[index]
    return comes_by(_without(namings, index), (naming.person, naming.name), naming.chain)


def _without(namings, index):
    """Return the namings without the one with this index."""
    return [(other, naming) for other, naming in namings if other != index]
