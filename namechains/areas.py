"""Areas: sets of pairs of a day and a tag (section 8)."""

from namechains.checks import is_integer_in
from namechains.errors import InvalidPart
from namechains.grants import grants_for, grants_of, met_by
from namechains.limits import LIMIT
from namechains.meaning import table_of
from namechains.rights import least_groups, may
from namechains.stretches import edges_of, has_number, is_area_part, rows_of_parts, rows_sifted, size_of, united
from namechains.subjects import ENDLESS, number_of


class Rows:
    """Rows of an area, for the package itself: Area takes them in the place of parts."""

    def __init__(self, rows):
        self.told = rows


class Area:
    """A set of pairs (day, tag); never changed."""

    def __init__(self, *parts):
        if len(parts) == 1 and isinstance(parts[0], Rows):
            self._rows = parts[0].told
        else:
            for index, part in enumerate(parts):
                if not is_area_part(part):
                    raise InvalidPart(index)
            self._rows = rows_of_parts(parts)

    @classmethod
    def whole(cls):
        """Return the area of all pairs."""
        return cls(((0, LIMIT), (0, LIMIT)))

    @property
    def rows(self):
        """The rows (days, tags): the longest stretches of days with the same tags, and these as stretches."""
        return self._rows

    @property
    def size(self):
        """How many pairs are in the area."""
        return sum([size_of([days]) * size_of(tags) for days, tags in self._rows])

    @property
    def least(self):
        """The first pair; None if there is none."""
        if not self._rows:
            return None
        days, tags = self._rows[0]
        return (days[0], tags[0][0])

    def __or__(self, other):
        return Area(Rows(rows_sifted(self.rows, other.rows, True, True, True)))

    def __and__(self, other):
        return Area(Rows(rows_sifted(self.rows, other.rows, False, True, False)))

    def __sub__(self, other):
        return Area(Rows(rows_sifted(self.rows, other.rows, True, False, False)))

    def __eq__(self, other):
        return isinstance(other, Area) and self.rows == other.rows

    def __bool__(self):
        return bool(self._rows)

    def __contains__(self, x):
        if not isinstance(x, tuple) or len(x) != 2 or not all([is_integer_in(number, 0, LIMIT) for number in x]):
            return False
        return any([first <= x[0] <= last and has_number(tags, x[1]) for (first, last), tags in self._rows])

    def is_within(self, other):
        """Tell whether each pair of this area is in the other one, too."""
        return not rows_sifted(self._rows, other.rows, True, False, False)

    def on(self, day):
        """Return the tags of the day: the longest stretches, ascending."""
        for days, tags in self._rows:
            if days[0] <= day <= days[1]:
                return tags
        return ()

    def days_for(self, tag):
        """Return the days of the tag: the longest stretches, ascending."""
        return united([days for days, tags in self._rows if has_number(tags, tag)])

    def walk(self):
        """Tell for each row tuples (days, tags), tags one after the other each of its stretches of tags."""
        for days, tags in self._rows:
            for stretch in tags:
                yield (days, stretch)


def area(book, owner, group):
    """Return the Area of all (day, tag) such that the group may do the tag for the owner on the day."""
    return _area_met(book, owner, {person: 0 for person in group})


def pass_area(book, owner, person, least):
    """Return the Area of all (day, tag) for which passes_of is at least so much."""
    # The person can pass it on so often exactly if with so many passes, or more, it is still met.
    return _area_met(book, owner, {person: number_of(least)})


def unlike(one, other, owner, group):
    """Return (which, day, tag), the first pair that is in the area of one of both Books only; None without any."""
    first = area(one, owner, group)
    second = area(other, owner, group)
    pairs = [(*apart.least, which) for which, apart in ((0, first - second), (1, second - first)) if apart]
    if not pairs:
        return None
    day, tag, which = min(pairs)
    return (which, day, tag)


def unlike_group(one, other, owner, tag, most):
    """Return (which, group), the first group that may on one of both Days only; None without any."""
    # The first such group is a least one where it may: any smaller part that may there would be one of them, too.
    found = [(len(group), group, which) for which, day, beside in ((0, one, other), (1, other, one))
             for group in least_groups(day, owner, tag, most) if not may(beside, owner, group, tag)]
    if not found:
        return None
    _, group, which = min(found)
    return (which, group)


def strips_of_days(book):
    """Return the stretches of days on all of which the same statements hold, ascending."""
    changes = book.changes()
    return [(first, behind - 1) for first, behind in zip(changes, [*changes[1:], LIMIT + 1])]


def strips_of_tags(grants):
    """Return the stretches of tags for all of which the same ones of the Grants count, ascending."""
    edges = sorted(set([0, LIMIT + 1, *edges_of([grant.span for grant in grants])]))
    return [(first, behind - 1) for first, behind in zip(edges, edges[1:])]


def _area_met(book, owner, starts):
    """Return the Area of all (day, tag) such that the owner is met; starts are as met_by takes them."""
    parts = []
    for days in strips_of_days(book):
        day = book.on(days[0])
        grants = grants_of(day, table_of(day), ())
        for tags in strips_of_tags(grants):
            if met_by(grants_for(grants, tags[0]), starts, ()).meets(owner, ENDLESS):
                parts.append((days, tags))
    return Area(*parts)
