"""The document's sentences on rights and outlooks, worked out anew in the plainest way, to compare the program with.

Rules are those of oracles.py; leaves are the Leaves that count.
"""

import itertools

from namechains.books import Book
from namechains.statements import Leave
from tests import oracles

PASSES = [*range(10), None]


def less(passes):
    return None if passes is None else passes - 1


def lesser(one, other):
    return other if one is None else one if other is None else min(one, other)


def gives(leave, passes):
    return lesser(less(passes), leave.times)


def is_at_least(one, other):
    return one is None or (other is not None and one >= other)


def counting(book, number, tag):
    return [one for one in book.statements if isinstance(one, Leave) and one.days[0] <= number <= one.days[1]
            and one.tags[0] <= tag <= one.tags[1]]


def chains_of(leave):
    return [leave.subject] if isinstance(leave.subject[0], str) else list(leave.subject[1])


def many_of(leave):
    return 1 if isinstance(leave.subject[0], str) else leave.subject[0]


def have_own(rows, many):
    """Whether so many of the rows have different persons."""
    return any(len(set(persons)) == many for some in itertools.combinations(rows, many)
               for persons in itertools.product(*some))


def grown(leaves, met, persons_for):
    """The least set of pairs that has these and what the Leaves add; persons_for tells who may stand for a chain."""
    while True:
        more = {(leave.person, passes) for leave in leaves for passes in PASSES if passes != 0
                and (leave.person, passes) not in met
                and have_own([persons_for(chain, gives(leave, passes), met) for chain in chains_of(leave)],
                             many_of(leave))}
        if not more:
            return met
        met |= more


def met_pairs(rules, leaves, starts):
    """[61]: all pairs (person, passes) that are met; starts tells for persons from which passes on they are met."""
    table = oracles.table_of_rules(rules)

    def persons_for(chain, passes, met):
        return [person for person in oracles.follow(table, chain) if (person, passes) in met]

    first = {(person, passes) for person, least in starts.items() for passes in PASSES if is_at_least(passes, least)}
    return grown(leaves, first, persons_for)


def may(book, number, owner, group, tag):
    rules, leaves = oracles.rules_on(book, number), counting(book, number, tag)
    return (owner, None) in met_pairs(rules, leaves, {person: 0 for person in group})


def least_of(persons, most, is_one):
    """All least sets of at most so many persons, by trying all."""
    found = []
    for size in range(most + 1):
        for some in itertools.combinations(sorted(persons), size):
            if not any(set(one) <= set(some) for one in found) and is_one(some):
                found.append(some)
    return found


def opening(rules, closed, pairs=(), table=None):
    """[44]: a function that tells whether a chain opens, by rows and pairs or by the least ones of all."""
    is_given = table is not None
    table = table if is_given else oracles.table_of_rules(rules)
    pairs = set(pairs)

    def opens(chain):
        return any(person not in closed or (person, chain[at]) in pairs
                   for at in range(1, len(chain)) for person in oracles.follow(table, chain[:at]))

    more = [None]
    while more and not is_given:
        more = [(person, name) for person, name, chain in rules
                if person in closed and (person, name) not in pairs and opens(chain)]
        pairs.update(more)
    return opens


def can_meet(book, number, owner, group, tag, closed):
    """[74]: whether the group can meet (owner, None)."""
    rules = oracles.rules_on(book, number)
    table = oracles.table_of_rules(rules)
    opens = opening(rules, closed)

    def persons_for(chain, passes, met):
        found = {person for person in oracles.follow(table, chain) if (person, passes) in met}
        if opens(chain):
            found |= set(group) if passes == 0 else {("new", chain)}
        return sorted(found, key=str)

    first = {(person, passes) for person in group for passes in PASSES}
    first |= {(person, passes) for person in [*book.persons, owner] if person not in closed for passes in PASSES[1:]}
    return (owner, None) in grown(counting(book, number, tag), first, persons_for)


def is_passes(value):
    return value is None or (type(value) is int and 0 <= value <= 9)


def is_index_of_leave(book, number, tag, value):
    """Whether the value is the index of a Leave that counts."""
    return type(value) is int and 0 <= value < len(book.statements) and any(
        book.statements[value] is leave for leave in counting(book, number, tag))


def is_yes(book, number, owner, group, tag, value):
    """[64], word by word."""
    if type(value) is not tuple or len(value) != 3 or value[0] != "yes":
        return False
    _, lines, rows = value
    # The lines are right if with them a bare chain has a yes paper.
    if not oracles.is_yes_paper(book, number, ("ann",), "ann", ("yes", lines, ())) or type(rows) is not tuple:
        return False
    for at, step in enumerate(rows):
        if type(step) is not tuple or len(step) != 4 or not is_passes(step[1]) or type(step[3]) is not tuple:
            return False
        person, passes, index, parts = step
        if index is None:
            if parts or person not in group:
                return False
        elif not is_index_of_leave(book, number, tag, index) or passes == 0:
            return False
        elif book.statements[index].person != person:
            return False
        elif not are_parts(book.statements[index], passes, lines, rows[:at], parts):
            return False
    return rows != () and rows[-1][:2] == (owner, None)


def are_parts(leave, passes, lines, earlier, parts):
    chains = chains_of(leave)
    for part in parts:
        if type(part) is not tuple or len(part) != 3 or type(part[0]) is not int or type(part[2]) is not int:
            return False
        number, places, at = part
        if not 0 <= number < len(chains) or not 0 <= at < len(earlier):
            return False
        if not oracles.is_row_of_numbers(places, len(lines)):
            return False
        if oracles.lead(lines, places, chains[number]) != earlier[at][0] or earlier[at][1] != gives(leave, passes):
            return False
    numbers = [part[0] for part in parts]
    persons = [earlier[part[2]][0] for part in parts]
    return len(parts) == many_of(leave) and numbers == sorted(set(numbers)) and len(set(persons)) == len(persons)


def is_no(book, number, owner, group, tag, value):
    """[65], word by word."""
    if type(value) is not tuple or len(value) != 4 or value[0] != "no":
        return False
    _, rows, pairs, covers = value
    # The rows are right if with them the bare chain of one person does not mean another.
    if not oracles.is_no_paper(book, number, ("ann",), "zed", ("no", rows)):
        return False
    table = {row[:2]: set(row[2]) for row in rows}
    return are_pairs_and_covers(book, number, owner, group, tag, table, pairs, covers, lambda chain: False)


def is_never(book, number, owner, group, tag, closed, value):
    """[75], word by word."""
    if type(value) is not tuple or len(value) != 5 or value[0] != "never":
        return False
    _, rows, opened, pairs, covers = value
    if not oracles.is_no_paper(book, number, ("ann",), "zed", ("no", rows)) or type(opened) is not tuple:
        return False
    if not all(type(pair) is tuple and len(pair) == 2 and all(map(oracles.is_word, pair)) for pair in opened):
        return False
    rules = oracles.rules_on(book, number)
    table = {row[:2]: set(row[2]) for row in rows}
    opens = opening(rules, closed, opened, table)
    if len(set(opened)) < len(opened) or any(
            person in closed and opens(chain) and (person, name) not in opened for person, name, chain in rules):
        return False
    if not are_pairs_and_covers(book, number, owner, group, tag, table, pairs, covers, opens):
        return False
    if any(person not in closed and passes != 0 for person, passes in pairs):
        return False
    return True


def are_pairs_and_covers(book, number, owner, group, tag, table, pairs, covers, opens):
    if type(pairs) is not tuple or type(covers) is not tuple:
        return False
    for pair in pairs:
        if type(pair) is not tuple or len(pair) != 2 or not oracles.is_word(pair[0]) or not is_passes(pair[1]):
            return False
        if pair[0] in group:
            return False
    if len(set(pairs)) < len(pairs) or (owner, None) not in pairs:
        return False
    for cover in covers:
        if type(cover) is not tuple or len(cover) != 4 or not is_passes(cover[1]):
            return False
        if not is_index_of_leave(book, number, tag, cover[0]) or not is_cover(
                book.statements[cover[0]], cover, group, table, pairs, opens):
            return False
    covered = [cover[:2] for cover in covers]
    if len(set(covered)) < len(covered):
        return False
    for person, passes in pairs:
        for index, leave in enumerate(book.statements):
            if passes != 0 and is_index_of_leave(book, number, tag, index) and leave.person == person:
                left = gives(leave, passes)
                if not isinstance(leave.subject[0], str):
                    if (index, left) not in covered:
                        return False
                elif opens(leave.subject) or any(
                        (further, left) not in pairs for further in oracles.follow(table, leave.subject)):
                    return False
    return True


def is_cover(leave, cover, group, table, pairs, opens):
    _, passes, numbers, persons = cover
    if isinstance(leave.subject[0], str) or type(persons) is not tuple or not all(map(oracles.is_word, persons)):
        return False
    if not oracles.is_row_of_numbers(numbers, len(leave.subject[1])):
        return False
    if list(numbers) != sorted(set(numbers)) or list(persons) != sorted(set(persons)):
        return False
    if len(numbers) + len(persons) >= leave.subject[0]:
        return False
    for at, chain in enumerate(leave.subject[1]):
        if at not in numbers:
            if opens(chain) and not (passes == 0 and set(group) <= set(persons)):
                return False
            if any(person not in persons and (person, passes) not in pairs for person in oracles.follow(table, chain)):
                return False
    return True


def random_subject(source, persons, names):
    def chain():
        return (source.choice(persons), *[source.choice(names) for _ in range(source.choice((0, 0, 0, 1, 1, 2)))])

    if source.random() < 0.5:
        return chain()
    chains = list(dict.fromkeys([chain() for _ in range(source.choice((1, 2, 2, 3, 3, 4)))]))
    return (source.randint(1, len(chains)), tuple(chains))


def random_book(source, many, days=(None, (0, 4), (3, 9)), persons=("ann", "bob", "cy", "dan"), names=("x", "y")):
    """A Book of at most so many statements, more than half of them Leaves; the same for the same source."""
    statements = []
    for _ in range(many):
        one = oracles.random_naming(source, persons, names, days)
        if source.random() < 0.6:
            tags = source.choice(((0, 5), (3, 9), (0, 10 ** 30), (9, 10 ** 30)))
            times = source.choice((None, None, 0, 1, 2, 9))
            one = Leave(source.choice(persons), random_subject(source, persons, names), tags, source.choice(days), times)
        if one not in statements:
            statements.append(one)
    return Book(*statements)
