"""What groups can come to do by what open persons state further (section 8)."""

from namechains.grants import grants_for, grants_of, met_by
from namechains.lines import namings_of
from namechains.meaning import table_by
from namechains.openings import does_open, new_words, open_chain, opening_pairs, statements_for
from namechains.saturation import forward_machine
from namechains.searches import is_part
from namechains.statements import Leave
from namechains.subjects import chains_of, given
from namechains.tables import table_of_chains


class Prospect:
    """A day with what open persons can bring about on it: the table of its namings and the pairs that open [44]."""

    def __init__(self, day, closed):
        self.today = day
        self.shut = tuple(closed)
        self.certain = namings_of(day)
        self.meant = table_by(self.certain)
        self.opens = opening_pairs(self.meant, self.certain, self.shut)
        self.grants = grants_opened(day, self.meant, self.opens, self.shut)

    def reach(self, owner, group, tag):
        """Return whom the group can come to meet [74]; new persons are left out."""
        starts = {person: 1 for person in [*self.today.book.persons, owner] if person not in self.shut}
        for person in group:
            starts[person] = 0
        return met_by(grants_for(self.grants, tag), starts, group)


class Future:
    """Statements of open persons, put together so that a group meets whom it can meet in the prospect."""

    def __init__(self, prospect, owner, group, tag):
        self.prospect = prospect
        self.group = group
        self.tag = tag
        self.used = [*prospect.today.book.persons, *prospect.shut, *group, owner]
        self.whom = prospect.reach(owner, group, tag)
        # Whom it meets already needs no statements.
        grants = grants_for(grants_of(prospect.today, prospect.meant, ()), tag)
        self.sure = met_by(grants, {person: 0 for person in group}, ())
        self.stated = []
        # Pairs (person, passes) for which all is stated that is needed.
        self.provided = {}

    def let(self, person, passes):
        """State what is needed for the person, who can be met with these passes, to be met with them."""
        if self.sure.meets(person, passes) or (person, passes) in self.provided:
            return
        self.provided[person, passes] = True
        if person not in self.prospect.shut:
            self._state(Leave(person, (self.group[0],), (self.tag, self.tag)))
            return
        grant, parts = self.whom.reasons[person]
        left = given(passes, grant.bound)
        for number, found in parts:
            stand_in = self._new_person() if found is None else found
            if stand_in not in grant.meant[number]:
                self._lead(grant.asked[number], stand_in)
            self.let(stand_in, left)

    def _state(self, statement):
        if statement not in self.stated and statement not in self.prospect.today.book.statements:
            self.stated.append(statement)

    def _lead(self, chain, person):
        """State what makes the chain, which opens, mean the person."""
        machine = forward_machine(self.prospect.certain, table_of_chains([chain]))
        for statement in statements_for(open_chain(machine, self.prospect.shut), person):
            self._state(statement)

    def _new_person(self):
        person = new_words(1, self.used)[0]
        self.used.append(person)
        return person


def grants_opened(day, table, opens, closed):
    """Return the Grants of the day by the table and the pairs that open."""
    chains = [chain for index in day.leaves for chain in chains_of(day.book[index].subject)]
    return grants_of(day, table, [chain for chain in chains if does_open(table, opens, closed, chain)])


def barring(prospect, group, grants, pairs, covers):
    """Return the persons, ascending, one of whom has to be open for the group to come to meet the owner.

    Pairs and covers are those of pairs_and_covers, which tell why it cannot meet the owner yet."""
    found = {person: True for person, passes in pairs if passes}
    chains = []
    for grant in grants:
        for (index, left), (numbers, persons) in covers.items():
            # If the whole group is covered, it is no matter whom the chains come to mean.
            if index == grant.index and (left or not is_part(group, persons)):
                chains.extend([chain for number, chain in enumerate(grant.asked) if number not in numbers])
    done = 0
    while done < len(chains):
        chain = chains[done]
        done += 1
        for pair in _pairs_on(prospect.meant, chain):
            found[pair[0]] = True
            behind = [naming.chain for _, naming in prospect.certain if (naming.person, naming.name) == pair]
            unseen = [further for further in behind if further not in chains]
            chains.extend(unseen)
    return sorted(list(found))


def _pairs_on(table, chain):
    """Return the pairs (person, name) that a chain passes by the table."""
    found = []
    reached = [chain[0]]
    for name in chain[1:]:
        found.extend([(person, name) for person in reached])
        reached = sorted({further for person in reached for further in table.get((person, name), ())})
    return found
