"""Legs of ways (section 6): the leg (p, n, q) stands for all ways of the chain (p, n) to the bare chain of q.

A rule is a tuple (start, index, person, name, chain): the naming with this index, and what using it costs at least.
The asked chain has a rule of its own, of the pair ROOT. Names may be any keys.
"""

from heapq import heappop, heappush

# The person and the name for which the asked chain stands; no word is empty.
ROOT = ("", "")


class Legs:
    """All legs that there are by some rules.

    found is a dict from each leg to (cost, number of the rule that is used first, persons reached by each name of its
    chain), the cheapest ones first. ends is a dict from each pair (p, n) to a list of the persons q, numbers one to a
    list of its rules' numbers."""

    def __init__(self, rules):
        self.rules = rules
        self.found = {}
        self.ends = {}
        self.numbers = {}
        for number, rule in enumerate(rules):
            self.numbers.setdefault((rule[2], rule[3]), []).append(number)


def cheapest_legs(rules, join):
    """Return the Legs of the rules, each by what costs least.

    join tells what a way costs if a further leg is behind what it has cost so far: join(cost, that of the leg, how many
    names are left behind the leg). It is never less than either cost, so what costs least is known for good."""
    legs = Legs(rules)
    waiting = {}
    met = set()
    queue = []
    for number, rule in enumerate(rules):
        heappush(queue, (rule[0], number, ()))
    while queue:
        cost, number, stops = heappop(queue)
        _, _, person, name, chain = rules[number]
        reached = stops[-1] if stops else chain[0]
        if (number, len(stops), reached) in met:
            continue
        met.add((number, len(stops), reached))
        left = len(chain) - 1 - len(stops)
        if left:
            pair = (reached, chain[-left])
            waiting.setdefault(pair, []).append((cost, number, stops))
            for further in legs.ends.get(pair, ()):
                passed = join(cost, legs.found[reached, chain[-left], further][0], left - 1)
                heappush(queue, (passed, number, (*stops, further)))
        elif (person, name, reached) not in legs.found:
            legs.found[person, name, reached] = (cost, number, stops)
            legs.ends.setdefault((person, name), []).append(reached)
            for begun, other, earlier in waiting.get((person, name), ()):
                behind = len(rules[other][4]) - 2 - len(earlier)
                heappush(queue, (join(begun, cost, behind), other, (*earlier, reached)))
    return legs


def parts_of(legs, leg):
    """Return the list of the legs that follow the first rewriting of the cheapest way of the leg."""
    _, number, stops = legs.found[leg]
    chain = legs.rules[number][4]
    begun = [chain[0], *stops]
    return [(person, name, further) for person, name, further in zip(begun, chain[1:], stops)]


def rows_between(legs, chain, person):
    """Return for each name of the chain a list of all its legs on ways to the person; None without such ways."""
    reached = [[chain[0]]]
    for name in chain[1:]:
        behind = sorted({further for one in reached[-1] for further in legs.ends.get((one, name), ())})
        reached.append(behind)
    if person not in reached[-1]:
        return None
    rows = []
    kept = [person]
    for at in range(len(chain) - 1, 0, -1):
        row = [(one, chain[at], further) for one in reached[at - 1] for further in kept
               if (one, chain[at], further) in legs.found]
        rows.append(row)
        kept = sorted({leg[0] for leg in row})
    return rows[::-1]


def legs_below(legs, leg):
    """Return a dict from the leg, and all legs that ways of it pass, to lists of tuples (number of a rule, its rows).

    The rows of a rule are those of its chain to the end of the leg; rules that do not lead there are left out."""
    found = {}
    queue = [leg]
    while queue:
        one = queue.pop()
        if one in found:
            continue
        options = []
        for number in legs.numbers[one[0], one[1]]:
            rows = rows_between(legs, legs.rules[number][4], one[2])
            if rows is not None:
                options.append((number, rows))
                for row in rows:
                    queue.extend(row)
        found[one] = options
    return found
