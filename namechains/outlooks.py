"""What groups may do in some future, or in none, and whom that depends on (section 8)."""

from namechains.areas import Area, strips_of_days, strips_of_tags
from namechains.denials import is_denial, told_denial
from namechains.grants import grants_for, grants_of, met_by, pairs_and_covers
from namechains.limits import MAX_CHAINS
from namechains.lines import namings_of
from namechains.meaning import table_by
from namechains.openings import are_kept, are_pairs, certain_namings
from namechains.proofs import are_rows, rows_of_table, table_of_rows
from namechains.prospects import Future, Prospect, barring, grants_opened
from namechains.searches import least_sets
from namechains.subjects import ENDLESS


def ever(day, owner, group, tag, closed):
    """Return statements with which the group may do the tag for the owner, () if none are needed; None in vain."""
    return _ever_in(Prospect(day, closed), owner, group, tag)


def never_right(day, owner, group, tag, closed):
    """Return a right never paper of the right; None if the group may do the tag for the owner in some future."""
    prospect = Prospect(day, closed)
    met = prospect.reach(owner, group, tag)
    if met.meets(owner, ENDLESS):
        return None
    grants = grants_for(prospect.grants, tag)
    pairs, covers = pairs_and_covers(grants, met, group, owner)
    rows = rows_of_table(prospect.meant)
    return ("never", rows, tuple(sorted(list(prospect.opens))), *told_denial(grants, pairs, covers))


def is_never_right(day, owner, group, tag, closed, value):
    """Tell whether the value, any value, is a right never paper of the right."""
    if not isinstance(value, tuple) or len(value) != 5 or value[0] != "never":
        return False
    _, rows, opens, pairs, covers = value
    if not are_rows(rows) or not are_pairs(opens):
        return False
    table = table_of_rows(rows)
    if not are_kept(table, opens, namings_of(day), closed):
        return False
    grants = grants_for(grants_opened(day, table, opens, closed), tag)
    if not is_denial(grants, group, owner, pairs, covers):
        return False
    return all([person in closed or passes == 0 for person, passes in pairs])


def ever_area(book, owner, group, closed):
    """Return the Area of all (day, tag) such that the group may do the tag for the owner in some future."""
    parts = []
    for days in strips_of_days(book):
        prospect = Prospect(book.on(days[0]), closed)
        for tags in strips_of_tags(prospect.grants):
            if prospect.reach(owner, group, tags[0]).meets(owner, ENDLESS):
                parts.append((days, tags))
    return Area(*parts)


def always(day, owner, group, tag, closed):
    """Tell whether the group may do the tag for the owner by the statements of closed persons alone."""
    table = table_by(certain_namings(day, closed, False))
    grants = [grant for grant in grants_for(grants_of(day, table, ()), tag) if grant.owner in closed]
    return met_by(grants, {person: 0 for person in group}, ()).meets(owner, ENDLESS)


def openers(day, owner, group, tag, most):
    """Return all least sets of at most so many persons: if all others are closed, the group may in some future."""
    persons = _persons_of(day, owner)

    def prospect_with(chosen):
        return Prospect(day, [person for person in persons if person not in chosen])

    def is_one(chosen):
        return prospect_with(chosen).reach(owner, group, tag).meets(owner, ENDLESS)

    def lacks(chosen):
        prospect = prospect_with(chosen)
        met = prospect.reach(owner, group, tag)
        grants = grants_for(prospect.grants, tag)
        denials = [pairs_and_covers(grants, met, group, owner, turn) for turn in range(MAX_CHAINS)]
        return [barring(prospect, group, grants, pairs, covers) for pairs, covers in denials]

    return least_sets(most, is_one, lacks)


def keepers(day, owner, group, tag, most):
    """Return all least sets of at most so many persons: if just these are closed, the group may in no future."""
    persons = _persons_of(day, owner)

    def is_one(chosen):
        return not Prospect(day, chosen).reach(owner, group, tag).meets(owner, ENDLESS)

    def lacks(chosen):
        stating = sorted(set([one.person for one in _ever_in(Prospect(day, chosen), owner, group, tag)]))
        return [[person for person in stating if person in persons]]

    return least_sets(most, is_one, lacks)


def _ever_in(prospect, owner, group, tag):
    """Return what ever tells in the prospect."""
    future = Future(prospect, owner, group, tag)
    if not future.whom.meets(owner, ENDLESS):
        return None
    future.let(owner, ENDLESS)
    return tuple(future.stated)


def _persons_of(day, owner):
    """Return the persons of the book and the owner, ascending."""
    return sorted(set([*day.book.persons, owner]))
