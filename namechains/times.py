"""On which days a chain means a person, and how long one paper serves (section 3)."""

from namechains.limits import LIMIT
from namechains.meaning import means
from namechains.papers import is_paper, no_paper, yes_paper
from namechains.proofs import is_covered, table_of_rows
from namechains.statements import Naming


def serves(day, chain, person, value):
    """Return the longest stretch with this day on which the value is a right paper; None if it is none on this day."""
    if not is_paper(day, chain, person, value):
        return None
    if value[0] == "yes":
        return _common_stretch([day.book[line[3]].days for line in value[1]])
    table = table_of_rows(value[1])
    broken = [naming.days for _, naming in _namings_between(day.book, 0, LIMIT) if not is_covered(table, naming)]
    return _stretch_beside(day.number, broken)


def days_of(book, chain, person):
    """Return the days on which the chain means the person: stretches, ascending and as few as possible."""
    found = []
    for first, last, persons in timeline(book, chain):
        if person in persons:
            is_next = bool(found) and found[-1][1] + 1 == first
            begun = found.pop()[0] if is_next else first
            found.append((begun, last))
    return tuple(found)


def timeline(book, chain):
    """Tell tuples (first, last, persons): stretches, as few as possible, on which the chain means these persons."""
    first = 0
    persons = means(book.on(0), chain)
    for number in book.changes()[1:]:
        others = means(book.on(number), chain)
        if others != persons:
            yield (first, number - 1, persons)
            first = number
            persons = others
    yield (first, LIMIT, persons)


def paper_for(book, chain, person, stretch):
    """Return a paper that is right on all days of the stretch; None if there is none."""
    first, last = stretch
    found = yes_paper(_namings_throughout(book, first, last), chain, person)
    return no_paper(_namings_between(book, first, last), chain, person) if found is None else found


def lasting(day, chain, person):
    """Return the stretches with this day that one paper serves and that are no part of another such one, ascending."""
    book = day.book
    lasts = _last_days_from(day)
    found = []
    furthest = -1
    for first in [number for number in book.changes() if number <= day.number]:
        # What serves from one day on serves from each later one on: the furthest last day never comes nearer.
        while (furthest + 1 < len(lasts)
               and paper_for(book, chain, person, (first, lasts[furthest + 1])) is not None):
            furthest += 1
        if furthest >= 0 and (not found or found[-1][1] < lasts[furthest]):
            found.append((first, lasts[furthest]))
    return tuple(found)


def relay(day, chain, person):
    """Return the stretches from this day on, as few and early ones as long as possible, that one paper each serves."""
    book = day.book
    is_meant = person in means(day, chain)
    found = []
    first = day.number
    served = first
    for last in _last_days_from(day):
        if (person in means(book.on(last), chain)) != is_meant:
            break
        if paper_for(book, chain, person, (first, last)) is None:
            found.append((first, served))
            first = served + 1
        served = last
    return tuple([*found, (first, served)])


def _namings_throughout(book, first, last):
    """Return the namings, with their indexes, that hold on all days of the stretch."""
    return [(index, naming) for index, naming in _namings_between(book, first, last)
            if naming.is_of(first) and naming.is_of(last)]


def _namings_between(book, first, last):
    """Return the namings, with their indexes, that hold on some day of the stretch."""
    return [(index, statement) for index, statement in enumerate(book.statements)
            if isinstance(statement, Naming) and statement.days[0] <= last and first <= statement.days[1]]


def _last_days_from(day):
    """Return the last days, from this one on, before other statements hold, and the last day of all."""
    return [number - 1 for number in day.book.changes() if number > day.number] + [LIMIT]


def _common_stretch(stretches):
    """Return the stretch of the days that all the stretches have; there is one."""
    first = max([0, *[stretch[0] for stretch in stretches]])
    last = min([LIMIT, *[stretch[1] for stretch in stretches]])
    return (first, last)


def _stretch_beside(number, stretches):
    """Return the longest stretch that has the day with this number and no day of the stretches."""
    first = max([0, *[last + 1 for _, last in stretches if last < number]])
    last = min([LIMIT, *[begun - 1 for begun, _ in stretches if begun > number]])
    return (first, last)
