"""How many ways there are, and how long the longest ones are (section 6): told of Legs whose costs are lengths."""

from namechains.graphs import order_of
from namechains.legs import legs_below

# It stands for this many ways and more.
MANY = 10 ** 30


def shortest_many(legs):
    """Return a dict from each leg to how many shortest ways it has."""
    many = {}
    for leg, (length, _, _) in legs.found.items():
        found = 0
        for number in legs.numbers[leg[0], leg[1]]:
            best = _shortest_to(legs, many, number).get(leg[2])
            if best is not None and best[0] == length:
                found += best[1]
        many[leg] = min(found, MANY)
    return many


def many_of_length(legs, leg, length):
    """Return how many ways of this length the leg has."""
    below = legs_below(legs, leg)
    places, edges = _places_and_edges(legs, below)
    many = {one: [] for one in below}
    rows = list(places.values()) + list(many.values())
    for done in range(length + 1):
        for row in rows:
            row.append(0)
        for number, (start, _, _, _, chain) in enumerate(legs.rules):
            places[number, 0, chain[0]][done] = 1 if done == start else 0
        for source, passed, target in edges:
            # Whatever is put together here has a rewriting at least, so each part of it is shorter and known already.
            behind = many[passed][done:0:-1]
            more = sum([ahead * left for ahead, left in zip(places[source], behind) if ahead])
            places[target][done] = min(MANY, places[target][done] + more)
        for one, options in below.items():
            ends = [places[rule, len(passed), one[2]] for rule, passed in options]
            many[one][done] = min(MANY, sum([row[done] for row in ends]))
    return many[leg][length]


def greatest_length(legs, leg):
    """Return the length of the longest ways of the leg; None if there are ways longer than any number."""
    below = legs_below(legs, leg)
    listed = list(below)
    number = {one: at for at, one in enumerate(listed)}
    leads = [[number[further] for _, rows in below[one] for row in rows for further in row] for one in listed]
    order = order_of(leads)
    if len(order) < len(listed):
        return None
    lengths = {}
    for at in order[::-1]:
        one = listed[at]
        lengths[one] = max([_greatest_by(legs.rules[rule], rows, one[2], lengths) for rule, rows in below[one]])
    return lengths[leg]


def _shortest_to(legs, many, number):
    """Return a dict from each person to (length, how many) of the shortest ways there that begin with this rule.

    Only legs are looked at of which it is known how many shortest ways they have."""
    start, _, _, _, chain = legs.rules[number]
    ways = {chain[0]: (start, 1)}
    for name in chain[1:]:
        further = {}
        for person, (length, count) in ways.items():
            for reached in legs.ends.get((person, name), ()):
                leg = (person, name, reached)
                if leg in many:
                    found = (length + legs.found[leg][0], count * many[leg])
                    further[reached] = _shorter(further.get(reached), found)
        ways = further
    return ways


def _shorter(one, other):
    """Return the one of (length, how many) that is shorter, both together if they are equally long; one may be None."""
    if one is None or other[0] < one[0]:
        return other
    return (one[0], one[1] + other[1]) if one[0] == other[0] else one


def _places_and_edges(legs, below):
    """Return a dict from each place (number of a rule, names gone, person reached) to a new list, and all edges.

    An edge is a tuple (place, leg, place), the leg one of those below; edges stand behind those that lead to them."""
    places = {}
    edges = []
    for number, rule in enumerate(legs.rules):
        chain = rule[4]
        reached = [chain[0]]
        places[number, 0, chain[0]] = []
        for at, name in enumerate(chain[1:]):
            passed = [(person, name, further) for person in reached for further in legs.ends.get((person, name), ())
                      if (person, name, further) in below]
            edges.extend([((number, at, leg[0]), leg, (number, at + 1, leg[2])) for leg in passed])
            reached = sorted({leg[2] for leg in passed})
            for person in reached:
                places[number, at + 1, person] = []
    return places, edges


def _greatest_by(rule, rows, person, lengths):
    """Return the length of the longest ways to the person that begin with the rule and pass legs of the rows."""
    greatest = {rule[4][0]: rule[0]}
    for row in rows:
        further = {}
        for leg in row:
            length = greatest[leg[0]] + lengths[leg]
            further[leg[2]] = max(further.get(leg[2], 0), length)
        greatest = further
    return greatest[person]
