"""Leaves that count for a tag, and with which passes groups meet persons by them (sections 7 and 8).

Passes are told as numbers, as subjects.py says it. A group is known by starts: a dict from persons to the least passes
with which they are met without any Leave.
"""

from namechains.meaning import meant_by
from namechains.shares import cover_of, matched
from namechains.subjects import ENDLESS, chains_of, given, is_share, many_of, number_of


class Grant:
    """A Leave that counts, with the persons whom its chains mean.

    meant has for each of the asked chains these persons, opens whether the chain opens: it can come to mean anybody."""

    def __init__(self, index, leave, table, opened):
        chains = chains_of(leave.subject)
        self.index = index
        self.owner = leave.person
        self.span = leave.tags
        self.asked = chains
        self.is_share = is_share(leave.subject)
        self.many = many_of(leave.subject)
        self.bound = number_of(leave.times)
        self.meant = [meant_by(table, chain) for chain in chains]
        self.opens = [chain in opened for chain in chains]


class Met:
    """Whom a group meets: passes is a dict from persons to the least ones.

    reasons is a dict from those who are met by a Leave to tuples (grant, parts): parts as shares.py tells them."""

    def __init__(self, starts):
        self.passes = {person: starts[person] for person in starts}
        self.reasons = {}

    def meets(self, person, passes):
        """Tell whether the person is met with these passes."""
        return person in self.passes and self.passes[person] <= passes


def grants_of(day, table, opened):
    """Return the Grants of all Leaves of the day, whatever their tags; opened has the chains that open."""
    return [Grant(index, day.book[index], table, opened) for index in day.leaves]


def grants_for(grants, tag):
    """Return those of the Grants that count for the tag."""
    return [grant for grant in grants if grant.span[0] <= tag <= grant.span[1]]


def met_by(grants, starts, group):
    """Return whom the group meets. Its persons can be meant by chains that open."""
    met = Met(starts)
    is_grown = True
    while is_grown:
        is_grown = False
        for grant in grants:
            share = _least_share(grant, met, group)
            if share is not None:
                passes, parts = share
                above = min(ENDLESS, passes + 1)
                if not met.meets(grant.owner, above):
                    met.passes[grant.owner] = above
                    met.reasons[grant.owner] = (grant, parts)
                    is_grown = True
    return met


def starters(met, person):
    """Return the persons who are met without any Leave and by whom the person is met, ascending."""
    found = {}
    queue = [person]
    while queue:
        one = queue.pop()
        if one not in found:
            found[one] = True
            if one in met.reasons:
                queue.extend([further for _, further in met.reasons[one][1]])
    return [one for one in sorted(list(found)) if one not in met.reasons]


def pairs_and_covers(grants, met, group, owner, turn=0):
    """Return a list of pairs (person, passes) that are not met, and covers, why (owner, ENDLESS) is not met.

    Covers are a dict from (index of a Leave, passes) to (numbers, persons), as cover_of tells them with this turn; for
    subjects that are chains, too."""
    pairs = [(owner, ENDLESS)]
    covers = {}
    done = 0
    while done < len(pairs):
        person, passes = pairs[done]
        done += 1
        for grant in [grant for grant in grants if grant.owner == person and passes]:
            left = given(passes, grant.bound)
            cover = cover_of(rows_met(grant, met, group, left), grant.many, turn)
            covers[grant.index, left] = cover
            for further in uncovered(grant, cover):
                if (further, left) not in pairs:
                    pairs.append((further, left))
    return pairs, covers


def rows_met(grant, met, group, passes):
    """Return for each chain of the grant the persons who can stand for it with these passes; None for a new one."""
    rows = [[person for person in row if met.meets(person, passes)] for row in grant.meant]
    wide = None if passes else group
    return [wide if is_open else row for row, is_open in zip(rows, grant.opens)]


def uncovered(grant, cover):
    """Return the persons whom chains of the grant mean that are not covered; a cover is (numbers, persons)."""
    numbers, persons = cover
    return [person for number, row in enumerate(grant.meant) if number not in numbers
            for person in row if person not in persons]


def _least_share(grant, met, group):
    """Return (passes, parts): the least passes with which the subject is met, and how; None if it is not met."""
    known = {person: met.passes[person] for row in grant.meant for person in row if person in met.passes}
    if len(known) < grant.many and not any(grant.opens):
        return None
    levels = list(known.values()) + ([0, 1] if any(grant.opens) else [])
    for passes in sorted(set(levels)):
        if passes <= grant.bound:
            parts = matched(rows_met(grant, met, group, passes), grant.many)
            if parts is not None:
                return (passes, parts)
    return None
