"""Papers for yes and for no: whether a chain means a person (section 3)."""

from namechains.lines import lines_for, lines_of, namings_of, places_of_pairs, ways_of
from namechains.meaning import meant_by, table_by
from namechains.proofs import are_places, are_right_lines, are_rows, is_covered, led_to, rows_of_table, table_of_rows


def paper(day, chain, person):
    """Return a right paper for the chain and the person: a yes paper if the chain means the person, else a no paper."""
    namings = namings_of(day)
    found = yes_paper(namings, chain, person)
    return no_paper(namings, chain, person) if found is None else found


def is_paper(day, chain, person, value):
    """Tell whether the value, any value, is a right paper for the chain and the person."""
    return _is_yes_paper(day, chain, person, value) or _is_no_paper(day, chain, person, value)


def yes_paper(namings, chain, person):
    """Return a yes paper that is right by these namings, tuples (index, naming); None if there is none."""
    lines = lines_of(namings)
    ways = ways_of(lines, places_of_pairs(lines), chain)
    if person not in ways:
        return None
    return _paper_of_needed(lines, ways[person])


def no_paper(namings, chain, person):
    """Return a no paper that is right by these namings, tuples (index, naming); None if there is none."""
    table = table_by(namings)
    if person in meant_by(table, chain):
        return None
    return ("no", rows_of_table(table))


def _paper_of_needed(lines, places):
    """Return the yes paper with these places and with only those of the lines that they need."""
    left, moved = lines_for(lines, places)
    return ("yes", left, tuple([moved[place] for place in places]))


def _is_yes_paper(day, chain, person, value):
    if not isinstance(value, tuple) or len(value) != 3 or value[0] != "yes":
        return False
    _, lines, places = value
    if not are_right_lines(day, lines) or not are_places(places, len(lines)):
        return False
    return led_to(lines, places, chain) == person


def _is_no_paper(day, chain, person, value):
    if not isinstance(value, tuple) or len(value) != 2 or value[0] != "no" or not are_rows(value[1]):
        return False
    table = table_of_rows(value[1])
    if person in meant_by(table, chain):
        return False
    return all([is_covered(table, day.book[index]) for index in day.namings])
