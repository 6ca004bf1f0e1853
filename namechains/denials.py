"""Pairs and covers of no papers and of never papers of rights [65], [75]: why a group does not meet the owner.

Pairs are tuples (person, passes), covers tuples (index, passes, numbers, persons).
"""

from namechains.checks import is_integer_in, is_times, is_word
from namechains.proofs import are_ascending
from namechains.searches import is_part
from namechains.subjects import given, number_of, passes_of_number


def told_denial(grants, pairs, covers):
    """Return (pairs, covers) as papers have them; those told by pairs_and_covers are passed."""
    shares = {grant.index: grant.is_share for grant in grants}
    told = [(index, passes_of_number(number), *cover) for (index, number), cover in covers.items() if shares[index]]
    return (tuple([(person, passes_of_number(number)) for person, number in pairs]), tuple(told))


def is_denial(grants, group, owner, pairs, covers):
    """Tell whether pairs and covers, any values, show that the group does not meet the owner with all passes."""
    if not _are_pairs(pairs) or (owner, None) not in pairs or any([person in group for person, _ in pairs]):
        return False
    shares = {grant.index: grant for grant in grants if grant.is_share}
    if not isinstance(covers, tuple) or not all([_is_cover(cover, shares) for cover in covers]):
        return False
    known = {pair: True for pair in pairs}
    covered = {cover[:2]: True for cover in covers}
    if len(covered) < len(covers):
        return False
    if not all([_is_right_cover(cover, shares[cover[0]], group, known) for cover in covers]):
        return False
    return all([_is_barred(grant, passes, known, covered) for person, passes in pairs if passes != 0
                for grant in grants if grant.owner == person])


def _are_pairs(value):
    """Tell whether the value is a tuple of different tuples (person, passes)."""
    return isinstance(value, tuple) and all([_is_pair(pair) for pair in value]) and len(set(value)) == len(value)


def _is_pair(value):
    return isinstance(value, tuple) and len(value) == 2 and is_word(value[0]) and is_times(value[1])


def _is_cover(value, shares):
    """Tell whether the value has the form of a cover for one of the shares, a dict from indexes to Grants."""
    if not isinstance(value, tuple) or len(value) != 4:
        return False
    index, passes, numbers, persons = value
    # True is equal to 1, but no index.
    if not isinstance(index, int) or isinstance(index, bool) or index not in shares or not is_times(passes):
        return False
    if not isinstance(numbers, tuple) or not isinstance(persons, tuple):
        return False
    most = len(shares[index].meant) - 1
    if not all([is_integer_in(number, 0, most) for number in numbers]) or not all([is_word(one) for one in persons]):
        return False
    return are_ascending(numbers) and are_ascending(persons) and len(numbers) + len(persons) < shares[index].many


def _is_right_cover(cover, grant, group, known):
    """Tell whether each chain with another number is left to the persons of the cover and to pairs with its passes."""
    _, passes, numbers, persons = cover
    for number, row in enumerate(grant.meant):
        if number not in numbers:
            if grant.opens[number] and not (passes == 0 and is_part(group, persons)):
                return False
            if not all([person in persons or (person, passes) in known for person in row]):
                return False
    return True


def _is_barred(grant, passes, known, covered):
    """Tell whether nobody with these passes, not 0, is met by the grant, by what the pairs and covers tell."""
    left = passes_of_number(given(number_of(passes), grant.bound))
    if grant.is_share:
        return (grant.index, left) in covered
    return not grant.opens[0] and all([(person, left) in known for person in grant.meant[0]])
