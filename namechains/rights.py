"""What groups may do by what persons let them do, with papers for yes and for no (section 7)."""

from namechains.claims import are_right_steps, steps_to
from namechains.denials import is_denial, told_denial
from namechains.grants import grants_for, grants_of, met_by, pairs_and_covers, starters
from namechains.limits import MAX_CHAINS
from namechains.lines import lines_of, namings_of
from namechains.meaning import table_of
from namechains.proofs import are_right_lines, are_rows, is_covered, rows_of_table, table_of_rows
from namechains.searches import least_sets
from namechains.subjects import ENDLESS, passes_of_number


def may(day, owner, group, tag):
    """Tell whether the group may do the tag for the owner."""
    return _met_by_group(_grants_on(day, tag), group).meets(owner, ENDLESS)


def needs(day, group, tag):
    """Return a dict from each person whom the group meets with some passes to the least ones of them."""
    least = _met_by_group(_grants_on(day, tag), group).passes
    return {person: passes_of_number(least[person]) for person in sorted(list(least))}


def may_alone(day, owner, tag):
    """Return the persons of the book, and the owner, that may do the tag for the owner as a group of one, ascending."""
    grants = _grants_on(day, tag)
    persons = sorted(set([*day.book.persons, owner]))
    return [person for person in persons if _met_by_group(grants, [person]).meets(owner, ENDLESS)]


def passes_of(day, owner, person, tag):
    """Return how often the person alone can pass the right on at the most: -1 if the person may not at all."""
    grants = _grants_on(day, tag)
    for passes in range(ENDLESS, -1, -1):
        if met_by(grants, {person: passes}, ()).meets(owner, ENDLESS):
            return passes_of_number(passes)
    return -1


def least_groups(day, owner, tag, most):
    """Return all least groups of at most so many helpers that may."""
    grants = _grants_on(day, tag)
    helpers = _helpers(day, owner)

    def is_one(group):
        return _met_by_group(grants, group).meets(owner, ENDLESS)

    def lacks(group):
        met = _met_by_group(grants, group)
        denials = [pairs_and_covers(grants, met, group, owner, turn)[0] for turn in range(MAX_CHAINS)]
        persons = [{person: True for person, _ in pairs} for pairs in denials]
        return [[person for person in helpers if person in barred] for barred in persons]

    return least_sets(most, is_one, lacks)


def least_blocks(day, owner, tag, most):
    """Return all least sets of at most so many helpers without whom all other helpers together may not."""
    grants = _grants_on(day, tag)
    helpers = _helpers(day, owner)

    def met_without(block):
        return _met_by_group(grants, [person for person in helpers if person not in block])

    def is_one(block):
        return not met_without(block).meets(owner, ENDLESS)

    def lacks(block):
        return [starters(met_without(block), owner)]

    return least_sets(most, is_one, lacks)


def right_paper(day, owner, group, tag):
    """Return a right paper of the right: a yes paper if the group may do the tag for the owner, else a no paper."""
    table = table_of(day)
    grants = grants_for(grants_of(day, table, ()), tag)
    met = _met_by_group(grants, group)
    if met.meets(owner, ENDLESS):
        return ("yes", *steps_to(lines_of(namings_of(day)), met, owner))
    pairs, covers = pairs_and_covers(grants, met, group, owner)
    return ("no", rows_of_table(table), *told_denial(grants, pairs, covers))


def is_right_paper(day, owner, group, tag, value):
    """Tell whether the value, any value, is a right paper of the right."""
    return _is_yes_paper(day, owner, group, tag, value) or _is_no_paper(day, owner, group, tag, value)


def _grants_on(day, tag):
    """Return the Grants of the Leaves that count on the day for the tag."""
    return grants_for(grants_of(day, table_of(day), ()), tag)


def _met_by_group(grants, group):
    return met_by(grants, {person: 0 for person in group}, group)


def _helpers(day, owner):
    """Return the persons of the book besides the owner, ascending."""
    return [person for person in day.book.persons if person != owner]


def _is_yes_paper(day, owner, group, tag, value):
    if not isinstance(value, tuple) or len(value) != 3 or value[0] != "yes" or not are_right_lines(day, value[1]):
        return False
    _, lines, claimed = value
    if not are_right_steps(day, tag, group, lines, claimed):
        return False
    return bool(claimed) and claimed[-1][:2] == (owner, None)


def _is_no_paper(day, owner, group, tag, value):
    if not isinstance(value, tuple) or len(value) != 4 or value[0] != "no" or not are_rows(value[1]):
        return False
    _, rows, pairs, covers = value
    table = table_of_rows(rows)
    if not all([is_covered(table, day.book[index]) for index in day.namings]):
        return False
    return is_denial(grants_for(grants_of(day, table, ()), tag), group, owner, pairs, covers)
