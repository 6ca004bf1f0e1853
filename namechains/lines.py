"""What follows from namings, as lines of yes papers (section 3): tuples (p, n, q, index, places).

Namings are passed as lists of tuples (index, naming), as namings_of returns them.
"""


def namings_of(day):
    """Return the namings of the day with their indexes."""
    return [(index, day.book[index]) for index in day.namings]


def lines_of(namings):
    """Return one right line for each person q whom (p, n) means by the namings, each behind those that it needs."""
    lines = []
    places_of = {}
    known = set()
    before = -1
    while before < len(lines):
        before = len(lines)
        for index, naming in namings:
            pair = (naming.person, naming.name)
            for reached, places in ways_of(lines, places_of, naming.chain).items():
                if (pair, reached) not in known:
                    known.add((pair, reached))
                    places_of[pair] = (*places_of.get(pair, ()), len(lines))
                    lines.append((naming.person, naming.name, reached, index, places))
    return lines


def places_of_pairs(lines):
    """Return a dict from each pair (p, n) to the places of its lines, ascending."""
    places_of = {}
    for place, line in enumerate(lines):
        pair = line[:2]
        places_of[pair] = (*places_of.get(pair, ()), place)
    return places_of


def ways_of(lines, places_of, chain):
    """Return a dict from each person whom the chain means by the lines to the places that lead it there."""
    ways = {chain[0]: ()}
    for name in chain[1:]:
        further = {}
        for person, places in ways.items():
            for place in places_of.get((person, name), ()):
                reached = lines[place][2]
                if reached not in further:
                    further[reached] = (*places, place)
        ways = further
    return ways


def lines_for(lines, places):
    """Return (lines, moved): a tuple of those of the lines that these places need, and where each old place is now."""
    needed = set()
    queue = list(places)
    while queue:
        place = queue.pop()
        if place not in needed:
            needed.add(place)
            queue.extend(lines[place][4])
    kept = sorted(needed)
    moved = {place: at for at, place in enumerate(kept)}
    left = [(*lines[place][:4], tuple([moved[other] for other in lines[place][4]])) for place in kept]
    return tuple(left), moved
