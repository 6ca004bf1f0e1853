"""The parts of papers: lines and places of yes papers [22], rows of no papers [23]. Checks take any value."""

from namechains.checks import is_integer_in, is_word
from namechains.meaning import meant_by


def are_right_lines(day, value):
    """Tell whether the value is a tuple of lines that are right on the day."""
    if not isinstance(value, tuple):
        return False
    # A line is followed through other lines, so all of them must have their form first.
    if not all([_is_line(line, at) for at, line in enumerate(value)]):
        return False
    return all([_is_right_line(day, value, line) for line in value])


def are_places(value, below):
    """Tell whether the value is a tuple of indexes that are less than this number."""
    return isinstance(value, tuple) and all([is_integer_in(place, 0, below - 1) for place in value])


def led_to(lines, places, chain):
    """Return the person to whom the places lead the chain through the lines; None if they lead it to nobody."""
    if len(places) != len(chain) - 1:
        return None
    reached = chain[0]
    for name, place in zip(chain[1:], places):
        if lines[place][:2] != (reached, name):
            return None
        reached = lines[place][2]
    return reached


def are_rows(value):
    """Tell whether the value is a tuple of rows (p, n, persons), as no papers have them."""
    if not isinstance(value, tuple) or not all([_is_row(row) for row in value]):
        return False
    return are_ascending([row[:2] for row in value])


def table_of_rows(rows):
    """Return the table that the rows tell: a dict from pairs (p, n) to persons."""
    return {row[:2]: row[2] for row in rows}


def rows_of_table(table):
    """Return the rows that tell the table, whose keys are ascending."""
    return tuple([(person, name, persons) for (person, name), persons in table.items()])


def is_covered(table, naming):
    """Tell whether all persons whom the chain of the naming means by the table are in its row."""
    row = table.get((naming.person, naming.name), ())
    return all([person in row for person in meant_by(table, naming.chain)])


def are_ascending(values):
    """Tell whether each of the values is greater than the one before."""
    return all([values[at - 1] < values[at] for at in range(1, len(values))])


def _is_line(value, at):
    """Tell whether the value has the form of the line at this place."""
    if not isinstance(value, tuple) or len(value) != 5:
        return False
    return all([is_word(word) for word in value[:3]]) and are_places(value[4], at)


def _is_right_line(day, lines, line):
    """Tell whether the line, one of these lines, which all have their form, is right on the day."""
    person, name, reached, index, places = line
    # The range comes ahead of the comparison: True is equal to 1, but no index.
    if not is_integer_in(index, 0, len(day.book) - 1) or index not in day.namings:
        return False
    naming = day.book[index]
    return (naming.person, naming.name) == (person, name) and led_to(lines, places, naming.chain) == reached


def _is_row(value):
    """Tell whether the value has the form of a row."""
    if not isinstance(value, tuple) or len(value) != 3 or not isinstance(value[2], tuple):
        return False
    person, name, persons = value
    if not persons or not all([is_word(word) for word in (person, name, *persons)]):
        return False
    return are_ascending(persons)
