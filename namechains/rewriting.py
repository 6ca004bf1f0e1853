"""Chains that become other chains by the namings of a day (section 4)."""

from namechains.languages import Names, Told
from namechains.lines import namings_of
from namechains.machines import reads, table_read
from namechains.saturation import backward_machine, forward_machine
from namechains.tables import combined, state_behind, table_led_by, table_of_chains, table_without
from namechains.walks import first_words


def becomes(day, chain):
    """Return all chains that the chain becomes, each once, in the order of [3]."""
    found = sorted({(*naming.chain, *chain[2:]) for _, naming in namings_of(day)
                    if (naming.person, naming.name) == chain[:2]})
    return sorted(found, key=lambda one: (len(one), one))


def comes_of(day, one, other):
    """Tell whether the chain other comes of the chain one."""
    return comes_by(namings_of(day), one, other)


def forward(day, names):
    """Return the Names of all chains that come of a chain of the set."""
    return Names(Told(table_read(forward_machine(namings_of(day), names.table))))


def backward(day, names):
    """Return the Names of all chains of which a chain of the set comes."""
    return Names(Told(table_read(backward_machine(namings_of(day), names.table))))


def meanings(day, chain):
    """Return the Names of all chains that come of the chain."""
    return forward(day, _names_of_one(chain))


def names_of(day, person):
    """Return the Names of all chains that mean the person."""
    return backward(day, _names_of_one((person,)))


def settled(day, names):
    """Return the Names of the settled chains of the set."""
    pairs = [(naming.person, naming.name) for _, naming in namings_of(day)]
    return Names(Told(table_without(names.table, pairs)))


def is_complete(day, names):
    """Tell whether each chain that comes of a chain of the set is in it."""
    # It is enough to look at what chains of the set become at once.
    return all([_is_kept(names.table, naming) for _, naming in namings_of(day)])


def between(day, one, other):
    """Return the Names of all chains that come of the chain one and of which the chain other comes."""
    return meanings(day, one) & backward(day, _names_of_one(other))


def comes_by(namings, one, other):
    """Tell whether the chain other comes of the chain one by these namings, tuples (index, naming)."""
    return reads(forward_machine(namings, table_of_chains([one])), other)


def _names_of_one(chain):
    """Return the Names of this one chain; Names itself takes none of more than 8 names."""
    return Names(Told(table_of_chains([chain])))


def _is_kept(table, naming):
    """Tell whether all that chains of the set become by the Naming is in the set."""
    state = state_behind(table, (naming.person, naming.name))
    if state is None:
        return True
    come = table_led_by(naming.chain, table, state)
    return first_words(combined(come, table, True, False, False), 0) is None
