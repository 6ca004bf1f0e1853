"""Ways from chains to persons: how long, how many, and what is needed for them (section 6)."""

from namechains.checks import is_integer_in
from namechains.errors import NotDone, NotMeant, OutOfRange
from namechains.legs import ROOT, cheapest_legs, legs_below, parts_of
from namechains.lines import namings_of
from namechains.meaning import meant_by, table_by
from namechains.papers import yes_paper
from namechains.tallies import greatest_length, many_of_length, shortest_many

# How many rewritings a part of a way has at the most.
MAX_PART = 200


class Way:
    """A way from the chain by these namings, wherever it leads; never changed."""

    def __init__(self, day, chain, *indexes):
        self._day = day
        self._chain = chain
        self._indexes = indexes
        self._goal = _chain_behind(day, chain, indexes)

    @property
    def day(self):
        """The day of the way."""
        return self._day

    @property
    def chain(self):
        """The chain with which it begins."""
        return self._chain

    @property
    def goal(self):
        """The chain to which it leads."""
        return self._goal

    @property
    def length(self):
        """How many rewritings it has."""
        return len(self._indexes)

    def chain_at(self, number):
        """Return the chain after so many rewritings."""
        _check_number(number, 0, self.length)
        return _chain_behind(self._day, self._chain, self._indexes[:number])

    def index_at(self, number):
        """Return the index of the naming that rewrites the chain after so many rewritings."""
        _check_number(number, 0, self.length - 1)
        return self._indexes[number]

    def part(self, first, last):
        """Return the Way from the chain after first rewritings to the one after last rewritings."""
        _check_part(first, last, self.length)
        begun = self.chain_at(first)
        indexes = self._indexes[first:last]
        return Way(self._day, begun, *indexes)

    def chains(self):
        """Tell all chains that it passes, the first one and the goal included."""
        chain = self._chain
        yield chain
        for index in self._indexes:
            chain = (*self._day.book[index].chain, *chain[2:])
            yield chain


class ShortestWay(Way):
    """Any one of the shortest ways of the chain to the person; it may be far too long to be followed."""

    def __init__(self, day, chain, person):
        super().__init__(day, chain)
        self._legs = _legs_of(day, chain, person)
        self._root = _root_of(person)
        self._goal = (person,)

    @property
    def day(self):
        """The day of the way."""
        return self._day

    @property
    def chain(self):
        """The chain with which it begins."""
        return self._chain

    @property
    def goal(self):
        """The chain to which it leads."""
        return self._goal

    @property
    def length(self):
        """How many rewritings it has."""
        return self._legs.found[self._root][0] - 1

    def chain_at(self, number):
        """Return the chain after so many rewritings."""
        _check_number(number, 0, self.length)
        ahead = self._legs_after(number)
        person = ahead[0][0] if ahead else self._goal[0]
        return (person, *[leg[1] for leg in ahead])

    def index_at(self, number):
        """Return the index of the naming that rewrites the chain after so many rewritings."""
        _check_number(number, 0, self.length - 1)
        rule = self._legs.found[self._legs_after(number)[0]][1]
        return self._legs.rules[rule][1]

    def part(self, first, last):
        """Return the Way from the chain after first rewritings to the one after last rewritings."""
        _check_part(first, last, self.length)
        begun = self.chain_at(first)
        indexes = [self.index_at(number) for number in range(first, last)]
        return Way(self._day, begun, *indexes)

    def chains(self):
        """Tell all chains that it passes, the first one and the goal included."""
        for number in range(self.length + 1):
            yield self.chain_at(number)

    def _legs_after(self, number):
        """Return the list of the legs that are still to be gone after so many rewritings."""
        left = number
        # The next one is last.
        ahead = parts_of(self._legs, self._root)[::-1]
        while ahead and left:
            leg = ahead.pop()
            length = self._legs.found[leg][0]
            if length <= left:
                left -= length
            else:
                left -= 1
                ahead.extend(parts_of(self._legs, leg)[::-1])
        return ahead[::-1]


def steps(day, chain, person, *, names=None):
    """Return the length of the shortest ways to the person: of those alone that pass chains with so many names."""
    if names is None:
        legs = _legs_of(day, chain, person)
    else:
        legs = cheapest_legs(_bounded_rules(day, chain, names), _length_behind)
    return _root_cost(legs, person) - 1


def count_shortest(day, chain, person):
    """Return how many of the shortest ways to the person there are; 10 ** 30 stands for this many and more."""
    many = shortest_many(_legs_of(day, chain, person))
    return many[_root_of(person)]


def count_ways(day, chain, person, length):
    """Return how many ways to the person have this length; 10 ** 30 stands for this many and more."""
    return many_of_length(_legs_of(day, chain, person), _root_of(person), length + 1)


def longest(day, chain, person):
    """Return the length of the longest ways to the person; None if there are ways longer than any number."""
    length = greatest_length(_legs_of(day, chain, person), _root_of(person))
    return None if length is None else length - 1


def space(day, chain, person):
    """Return the least number for which some way to the person passes only chains with at most so many names."""
    rules = [(max(1, len(rule[4]) - 1), *rule[1:]) for rule in _rules_of(day)]
    root = (len(chain) - 1, None, *ROOT, chain)
    return _root_cost(cheapest_legs([*rules, root], _names_behind), person)


def since(day, chain, person):
    """Return the least number such that the namings of less indexes make the chain mean the person."""
    namings = namings_of(day)
    _check_meant(namings, chain, person)
    numbers = [0, *[index + 1 for index, _ in namings]]
    return [number for number in numbers if _is_meant(_before(namings, number), chain, person)][0]


def needed(day, chain, person):
    """Return the indexes of the namings without each of which the chain does not mean the person, ascending."""
    namings = namings_of(day)
    _check_meant(namings, chain, person)
    return [index for index in _used(namings, chain, person)
            if not _is_meant(_without(namings, index), chain, person)]


def needed_pairs(day, chain, person):
    """Return the pairs of namings, neither needed, without both of which the chain does not mean the person."""
    namings = namings_of(day)
    alone = needed(day, chain, person)
    pairs = []
    for index in [index for index in day.namings if index not in alone]:
        left = _without(namings, index)
        # Whatever is needed with this one is used by each paper that does without this one.
        for other in _used(left, chain, person):
            if index < other and other not in alone and not _is_meant(_without(left, other), chain, person):
                pairs.append((index, other))
    return pairs


def spared(day, chain, person):
    """Return the indexes of the namings that are on no way to the person, ascending."""
    legs = _legs_of(day, chain, person)
    below = legs_below(legs, _root_of(person))
    used = {legs.rules[number][1]: True for options in below.values() for number, _ in options}
    return [index for index in day.namings if index not in used]


def _rules_of(day):
    """Return the namings of the day as rules that cost one rewriting."""
    return [(1, index, naming.person, naming.name, naming.chain) for index, naming in namings_of(day)]


def _legs_of(day, chain, person):
    """Return the Legs of the day with the lengths of their shortest ways; one rewriting more is told of the root."""
    legs = cheapest_legs([*_rules_of(day), (1, None, *ROOT, chain)], _length_behind)
    _root_cost(legs, person)
    return legs


def _bounded_rules(day, chain, names):
    """Return rules for ways that pass chains with at most so many names, the one of the asked chain included.

    Each name stands beside how many names a chain may have, apart from those that are behind this name."""
    rules = []
    for start, index, person, name, behind in _rules_of(day):
        least = max(1, len(behind) - 1)
        rules.extend([(start, index, person, (name, most), _bounded(behind, most)) for most in range(least, names + 1)])
    if len(chain) - 1 <= names:
        rules.append((1, None, *ROOT, _bounded(chain, names)))
    return rules


def _bounded(chain, most):
    """Return the chain with its names as _bounded_rules has them."""
    behind = len(chain) - 1
    return (chain[0], *[(name, most - behind + at + 1) for at, name in enumerate(chain[1:])])


def _length_behind(length, further, left):
    """Return the length of a way with a further leg behind it."""
    return length + further


def _names_behind(names, further, left):
    """Return how many names chains have on a way with a further leg behind it, of which so many names are left."""
    return max(names, further + left)


def _root_of(person):
    """Return the leg of the asked chain to the person."""
    return (*ROOT, person)


def _root_cost(legs, person):
    """Return what the cheapest way of the asked chain to the person costs."""
    root = _root_of(person)
    if root not in legs.found:
        raise NotMeant(person)
    return legs.found[root][0]


def _check_meant(namings, chain, person):
    if not _is_meant(namings, chain, person):
        raise NotMeant(person)


def _is_meant(namings, chain, person):
    """Tell whether the chain means the person by these namings alone."""
    return person in meant_by(table_by(namings), chain)


def _used(namings, chain, person):
    """Return the indexes of namings, ascending, that suffice for the chain to mean the person, as it does."""
    _, lines, _ = yes_paper(namings, chain, person)
    return sorted(set([line[3] for line in lines]))


def _without(namings, index):
    """Return the namings without the one with this index."""
    return [(other, naming) for other, naming in namings if other != index]


def _before(namings, number):
    """Return the namings whose indexes are less than the number."""
    return [(index, naming) for index, naming in namings if index < number]


def _chain_behind(day, chain, indexes):
    """Return the chain that these namings, one after the other, make of the chain."""
    person = chain[0]
    # The first name is last.
    names = list(chain[:0:-1])
    for place, index in enumerate(indexes):
        if not names or not is_integer_in(index, 0, len(day.book) - 1) or index not in day.namings:
            raise NotDone(place)
        naming = day.book[index]
        if (naming.person, naming.name) != (person, names.pop()):
            raise NotDone(place)
        person = naming.chain[0]
        names.extend(naming.chain[:0:-1])
    return (person, *names[::-1])


def _check_number(number, low, high):
    if not is_integer_in(number, low, high):
        raise OutOfRange(number)


def _check_part(first, last, length):
    """Raise what is wrong with the ends of a part of a way of this length."""
    _check_number(first, 0, length)
    _check_number(last, first, min(length, first + MAX_PART))
