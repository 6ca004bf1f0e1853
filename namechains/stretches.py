"""Sets of days or of tags, and of pairs of both (section 8).

A set of days or of tags is told by stretches, ascending and as few as possible, in a tuple. A set of pairs is told by
rows: tuples (days, tags), days a stretch, tags such a set. What stands here runs behind operators and properties of
Areas: it changes only what it has created itself.
"""

from namechains.checks import is_stretch


def is_area_part(value):
    """Tell whether the value is a part of an area: a tuple (days, tags) of two stretches."""
    return isinstance(value, tuple) and len(value) == 2 and is_stretch(value[0]) and is_stretch(value[1])


def has_number(stretches, number):
    """Tell whether one of the stretches has the number."""
    return any([first <= number <= last for first, last in stretches])


def size_of(stretches):
    """Return how many numbers the stretches have, which do not overlap."""
    return sum([last - first + 1 for first, last in stretches])


def edges_of(stretches):
    """Return the numbers, ascending, at which one of the stretches begins or behind which one ends."""
    return sorted(set([edge for first, last in stretches for edge in (first, last + 1)]))


def united(stretches):
    """Return the set of the numbers that one of the stretches has at least."""
    found = []
    for first, last in sorted(stretches):
        if found and first <= found[-1][1] + 1:
            found[-1] = (found[-1][0], max(found[-1][1], last))
        else:
            found.append((first, last))
    return tuple(found)


def sifted(one, other, in_one, in_both, in_other):
    """Return the set of those numbers that are asked for: in the first set only, in both, in the other one only."""
    edges = edges_of([*one, *other])
    found = []
    at = beside = 0
    for first, behind in zip(edges, edges[1:]):
        while at < len(one) and one[at][1] < first:
            at += 1
        while beside < len(other) and other[beside][1] < first:
            beside += 1
        is_here = at < len(one) and one[at][0] <= first
        is_there = beside < len(other) and other[beside][0] <= first
        if (in_both if is_there else in_one) if is_here else is_there and in_other:
            found.append((first, behind - 1))
    return united(found)


def rows_of_parts(parts):
    """Return the rows of all pairs of the parts, tuples (days, tags) of stretches."""
    edges = edges_of([days for days, _ in parts])
    strips = []
    for first, behind in zip(edges, edges[1:]):
        tags = united([tags for days, tags in parts if days[0] <= first <= days[1]])
        strips.append(((first, behind - 1), tags))
    return rows_of_strips(strips)


def rows_sifted(one, other, in_one, in_both, in_other):
    """Return the rows of those pairs that are asked for: in the first rows only, in both, in the other ones only."""
    edges = edges_of([days for days, _ in [*one, *other]])
    strips = []
    at = beside = 0
    for first, behind in zip(edges, edges[1:]):
        while at < len(one) and one[at][0][1] < first:
            at += 1
        while beside < len(other) and other[beside][0][1] < first:
            beside += 1
        here = one[at][1] if at < len(one) and one[at][0][0] <= first else ()
        there = other[beside][1] if beside < len(other) and other[beside][0][0] <= first else ()
        strips.append(((first, behind - 1), sifted(here, there, in_one, in_both, in_other)))
    return rows_of_strips(strips)


def rows_of_strips(strips):
    """Return the rows of strips: tuples (days, tags) that may be without tags, or have the tags of the strip before."""
    rows = []
    for days, tags in strips:
        if tags:
            if rows and rows[-1][1] == tags and rows[-1][0][1] + 1 == days[0]:
                rows[-1] = ((rows[-1][0][0], days[1]), tags)
            else:
                rows.append((days, tags))
    return tuple(rows)
