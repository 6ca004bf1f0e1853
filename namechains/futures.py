"""What holds in every future that open persons can bring about, and what in some (section 5)."""

from namechains.languages import Names, Told
from namechains.machines import only_bare, table_read
from namechains.meaning import meant_by, means, table_by
from namechains.openings import (
    are_kept, are_pairs, certain_namings, does_open, new_path, open_chain, opening_pairs, statements_for)
from namechains.proofs import are_rows, rows_of_table, table_of_rows
from namechains.rewriting import meanings
from namechains.saturation import forward_machine
from namechains.tables import table_of_chains


def frontier(day, chain, closed, *, kept=True):
    """Return the Names of the bare and open chains that arise from the chain by changes of chains that are neither."""
    # Such changes are by namings of closed persons, which are certain whether the others keep theirs or not.
    machine = forward_machine(certain_namings(day, closed, False), table_of_chains([chain]))
    return Names(Told(table_read(only_bare(machine, closed))))


def deciders(day, chain, closed, *, kept=True):
    """Return the open persons with whom open chains begin that come of the chain, ascending."""
    machine = _machine_of(day, chain, closed, kept)
    return tuple([
        person for person in sorted(list(machine.heads))
        if person not in closed and any([machine.steps[state] for state in machine.heads[person]])])


def parted(day, one, other, closed, *, kept=True):
    """Return None if other means in every future whomever one means, else (chain, statements) that show it does not."""
    come = Names(Told(table_read(_machine_of(day, other, closed, kept))))
    chain = (frontier(day, one, closed, kept=kept) - come).least
    if chain is None:
        return None
    return (chain, new_path(chain, [*day.book.persons, *closed, *one, *other]))


def must_close(day, one, other):
    """Return the persons who have to be closed so that other means whomever one means, ascending; None in vain."""
    apart = meanings(day, one) - meanings(day, other)
    return None if apart.count(0) else apart.persons


def can_come(day, chain, person, closed, *, kept=True):
    """Return statements with which the chain means the person, () if none are needed; None if no future has any."""
    namings = certain_namings(day, closed, kept)
    table = table_by(namings)
    if person in meant_by(table, chain):
        return ()
    if not does_open(table, opening_pairs(table, namings, closed), closed, chain):
        return None
    return statements_for(open_chain(_machine_of(day, chain, closed, kept), closed), person)


def sure(day, chain, closed):
    """Return the persons whom the chain means by the namings of closed persons alone, ascending."""
    return meant_by(table_by(certain_namings(day, closed, False)), chain)


def is_never_paper(day, chain, person, closed, value, *, kept=True):
    """Tell whether the value, any value, is a right never paper: the chain means the person in no future."""
    if not isinstance(value, tuple) or len(value) != 3 or value[0] != "never":
        return False
    _, rows, pairs = value
    if not are_rows(rows) or not are_pairs(pairs):
        return False
    table = table_of_rows(rows)
    if not are_kept(table, pairs, certain_namings(day, closed, kept), closed):
        return False
    return not does_open(table, pairs, closed, chain) and person not in meant_by(table, chain)


def never_paper(day, chain, person, closed, *, kept=True):
    """Return a right never paper; None if the chain means the person in some future."""
    namings = certain_namings(day, closed, kept)
    table = table_by(namings)
    pairs = opening_pairs(table, namings, closed)
    if person in meant_by(table, chain) or does_open(table, pairs, closed, chain):
        return None
    return ("never", rows_of_table(table), tuple(sorted(list(pairs))))


def together(day, chains, closed, *, kept=True):
    """Return (person, statements) with which all the chains mean this person; None if no future has any."""
    namings = certain_namings(day, closed, kept)
    table = table_by(namings)
    pairs = opening_pairs(table, namings, closed)
    meant = [meant_by(table, chain) for chain in chains]
    fixed = [persons for chain, persons in zip(chains, meant) if not does_open(table, pairs, closed, chain)]
    # Chains that open can mean anybody; where all do so, a person whom all mean already needs the fewest statements.
    found = _common(meant) or (_common(fixed) if fixed else chains[0][:1])
    if not found:
        return None
    person = found[0]
    needed = [can_come(day, chain, person, closed, kept=kept) for chain in chains]
    return (person, tuple([statement for statements in needed for statement in statements]))


def keep_apart(day, one, other):
    """Return the fewest persons who have to be closed so that both never mean a common person; None if they do now."""
    if _common([means(day, one), means(day, other)]):
        return None
    first = deciders(day, one, ())
    second = deciders(day, other, ())
    ways = [tuple(sorted(set(first + second)))]
    # A chain that means nobody and does not open means nobody ever, whatever the other one comes to mean.
    if not means(day, one):
        ways.append(first)
    if not means(day, other):
        ways.append(second)
    return min(ways, key=lambda persons: (len(persons), persons))


def _machine_of(day, chain, closed, kept):
    """Return the machine that reads all chains that come of the chain by certain namings."""
    return forward_machine(certain_namings(day, closed, kept), table_of_chains([chain]))


def _common(rows):
    """Return the persons who are in each of the rows, in the order of the first one."""
    return [person for person in rows[0] if all([person in persons for persons in rows])]
