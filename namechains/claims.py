"""Steps of yes papers of rights [64]: tuples (person, passes, index, parts), parts tuples (number, places, earlier)."""

from namechains.checks import is_integer_in, is_times
from namechains.lines import lines_for, places_of_pairs, ways_of
from namechains.proofs import are_ascending, are_places, led_to
from namechains.subjects import ENDLESS, chains_of, given, many_of, number_of, passes_of_number


class Claim:
    """Steps that are put together by whom a group meets; places are those of these lines."""

    def __init__(self, lines, met):
        self.basis = lines
        self.whom = met
        self.places_of = places_of_pairs(lines)
        self.steps = []
        self.known = {}

    def step_for(self, person, number):
        """Return the index of the step of the person with passes of this number; what it needs stands before it."""
        if (person, number) not in self.known:
            step = (person, passes_of_number(number), None, ())
            if person in self.whom.reasons:
                grant, parts = self.whom.reasons[person]
                left = given(number, grant.bound)
                step = (*step[:2], grant.index, tuple([self._part_for(grant, part, left) for part in parts]))
            self.known[person, number] = len(self.steps)
            self.steps.append(step)
        return self.known[person, number]

    def _part_for(self, grant, part, left):
        number, person = part
        places = ways_of(self.basis, self.places_of, grant.asked[number])[person]
        return (number, places, self.step_for(person, left))


def steps_to(lines, met, owner):
    """Return (lines, steps) of a yes paper for the owner, who is met; lines that are not used are left out."""
    claim = Claim(lines, met)
    claim.step_for(owner, ENDLESS)
    used = [place for _, _, _, parts in claim.steps for _, places, _ in parts for place in places]
    left, moved = lines_for(lines, used)
    told = []
    for person, passes, index, parts in claim.steps:
        kept = [(number, tuple([moved[place] for place in places]), earlier) for number, places, earlier in parts]
        told.append((person, passes, index, tuple(kept)))
    return (left, tuple(told))


def are_right_steps(day, tag, group, lines, value):
    """Tell whether the value, any value, is a tuple of right steps; the lines are right."""
    if not isinstance(value, tuple):
        return False
    # A step is looked at only if those before it are right: it may name them.
    for at, step in enumerate(value):
        if not _is_step(step) or not _is_right_step(day, tag, group, lines, value[:at], step):
            return False
    return True


def _is_step(value):
    """Tell whether the value has the form of a step."""
    if not isinstance(value, tuple) or len(value) != 4 or not isinstance(value[0], str) or not is_times(value[1]):
        return False
    return isinstance(value[3], tuple)


def _is_right_step(day, tag, group, lines, earlier, step):
    """Tell whether the step, which has its form, is right behind these earlier ones."""
    person, passes, index, parts = step
    if index is None:
        return parts == () and person in group
    if not is_integer_in(index, 0, len(day.book) - 1) or index not in day.leaves or passes == 0:
        return False
    leave = day.book[index]
    if leave.person != person or not leave.tags[0] <= tag <= leave.tags[1]:
        return False
    return _are_right_parts(leave, passes, lines, earlier, parts)


def _are_right_parts(leave, passes, lines, earlier, parts):
    """Tell whether the parts are those of a step by the Leave with these passes."""
    chains = chains_of(leave.subject)
    left = passes_of_number(given(number_of(passes), number_of(leave.times)))
    if len(parts) != many_of(leave.subject):
        return False
    if not all([_is_right_part(chains, left, lines, earlier, part) for part in parts]):
        return False
    persons = [earlier[part[2]][0] for part in parts]
    return are_ascending([part[0] for part in parts]) and len(set(persons)) == len(persons)


def _is_right_part(chains, left, lines, earlier, part):
    """Tell whether the part leads one of the chains to the person of an earlier step with the passes that are left."""
    if not isinstance(part, tuple) or len(part) != 3:
        return False
    number, places, at = part
    if not is_integer_in(number, 0, len(chains) - 1) or not is_integer_in(at, 0, len(earlier) - 1):
        return False
    if not are_places(places, len(lines)):
        return False
    return led_to(lines, places, chains[number]) == earlier[at][0] and earlier[at][1] == left
