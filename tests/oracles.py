"""The document's sentences on meaning and papers, worked out anew in the plainest way, to compare the program with.

A rule is a tuple (person, name, chain): a Naming without its days.
"""

import itertools
import random

from namechains.books import Book
from namechains.statements import Leave, Naming


def rules_on(book, number):
    """The namings of a day, by the days of the statements."""
    return [(one.person, one.name, one.chain) for one in book.statements
            if isinstance(one, Naming) and one.days[0] <= number <= one.days[1]]


def follow(table, chain):
    """The set of the persons whom a chain means by a table from pairs to sets."""
    reached = {chain[0]}
    for name in chain[1:]:
        reached = {further for person in reached for further in table.get((person, name), ())}
    return reached


def table_of_rules(rules):
    """The smallest sets of [20], from nothing upwards."""
    table = {(person, name): set() for person, name, _ in rules}
    while True:
        grown = {pair: set(table[pair]) for pair in table}
        for person, name, chain in rules:
            grown[person, name] |= follow(table, chain)
        if grown == table:
            return {pair: table[pair] for pair in sorted(table) if table[pair]}
        table = grown


def meant(rules, chain):
    """The persons whom the chain means, ascending."""
    return tuple(sorted(follow(table_of_rules(rules), chain)))


def become(rules, chain):
    """The set of the chains that a chain becomes at once."""
    return {(*behind, *chain[2:]) for person, name, behind in rules if chain[:2] == (person, name)}


def arising(rules, chains, words):
    """The set of the chains that come of these without ever having more than so many words."""
    found = set(chains)
    left = list(chains)
    while left:
        for chain in become(rules, left.pop()):
            if len(chain) <= words and chain not in found:
                found.add(chain)
                left.append(chain)
    return found


def all_chains(persons, names, words):
    """All chains of these words with at most so many words, in the order of [3]."""
    return [(person, *row) for many in range(words) for person in sorted(persons)
            for row in itertools.product(sorted(names), repeat=many)]


def in_order(chains):
    return sorted(chains, key=lambda chain: (len(chain), chain))


def is_word(value):
    return type(value) is str and 1 <= len(value) <= 8 and set(value) <= set("abcdefghijklmnopqrstuvwxyz")


def is_row_of_numbers(value, below):
    return type(value) is tuple and all(type(number) is int and 0 <= number < below for number in value)


def is_yes_paper(book, number, chain, person, value):
    """[22], word by word."""
    if type(value) is not tuple or len(value) != 3 or value[0] != "yes" or type(value[1]) is not tuple:
        return False
    lines = value[1]
    for at, line in enumerate(lines):
        if type(line) is not tuple or len(line) != 5 or type(line[3]) is not int:
            return False
        if not all(is_word(word) for word in line[:3]) or not is_row_of_numbers(line[4], at):
            return False
        if not 0 <= line[3] < len(book.statements):
            return False
        naming = book.statements[line[3]]
        if not isinstance(naming, Naming) or not naming.days[0] <= number <= naming.days[1]:
            return False
        if (naming.person, naming.name) != line[:2] or lead(lines, line[4], naming.chain) != line[2]:
            return False
    return is_row_of_numbers(value[2], len(lines)) and lead(lines, value[2], chain) == person


def lead(lines, places, chain):
    if len(places) != len(chain) - 1:
        return None
    reached = chain[0]
    for place, name in zip(places, chain[1:]):
        if (lines[place][0], lines[place][1]) != (reached, name):
            return None
        reached = lines[place][2]
    return reached


def are_rows(value):
    if type(value) is not tuple:
        return False
    for row in value:
        if type(row) is not tuple or len(row) != 3 or not is_word(row[0]) or not is_word(row[1]):
            return False
        if type(row[2]) is not tuple or not row[2] or not all(is_word(word) for word in row[2]):
            return False
        if list(row[2]) != sorted(set(row[2])):
            return False
    pairs = [row[:2] for row in value]
    return pairs == sorted(set(pairs))


def is_no_paper(book, number, chain, person, value):
    """[23], word by word."""
    if type(value) is not tuple or len(value) != 2 or value[0] != "no" or not are_rows(value[1]):
        return False
    table = {row[:2]: set(row[2]) for row in value[1]}
    for stating, name, behind in rules_on(book, number):
        if not follow(table, behind) <= table.get((stating, name), set()):
            return False
    return person not in follow(table, chain)


def is_right_paper(book, number, chain, person, value):
    return is_yes_paper(book, number, chain, person, value) or is_no_paper(book, number, chain, person, value)


def are_plain(*values):
    """Whether the values are of exactly the kinds of the document, down to the last part."""
    for value in values:
        if type(value) in (tuple, list):
            if not are_plain(*value):
                return False
        elif type(value) is dict:
            if not are_plain(*value.keys(), *value.values()):
                return False
        elif type(value) not in (int, str, bool, type(None)):
            return False
    return True


def random_naming(source, persons, names, days):
    many = source.choice((0, 0, 0, 1, 1, 2, 3, 4))
    chain = (source.choice(persons), *[source.choice(names) for _ in range(many)])
    return Naming(source.choice(persons), source.choice(names), chain, source.choice(days))


def random_book(source, many, days=(None,), persons=("ann", "bob", "cy"), names=("x", "y"), leaves=True):
    """A Book of at most so many statements, about one of six of them a Leave; the same for the same source."""
    statements = []
    for _ in range(many):
        one = random_naming(source, persons, names, days)
        if leaves and source.random() < 0.15:
            one = Leave(one.person, one.chain, (1, 5), one.days)
        if one not in statements:
            statements.append(one)
    return Book(*statements)


def random_books(seed, many, **more):
    """So many small books, always the same ones for a seed."""
    source = random.Random(seed)
    return [random_book(source, source.randint(0, 7), **more) for _ in range(many)]
