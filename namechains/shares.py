"""Persons for chains, each chain one of its own (section 7).

A row is the list of the persons who can stand for a chain; None stands for persons without end.
"""

# For each count of rows the numbers that can be taken, the most first.
PARTS = (
    ((),),
    ((0,), ()),
    ((0, 1), (0,), (1,), ()),
    ((0, 1, 2), (0, 1), (0, 2), (1, 2), (0,), (1,), (2,), ()),
    ((0, 1, 2, 3), (0, 1, 2), (0, 1, 3), (0, 2, 3), (1, 2, 3), (0, 1), (0, 2), (0, 3), (1, 2), (1, 3), (2, 3),
     (0,), (1,), (2,), (3,), ()),
)


def matched(rows, many):
    """Return a list of tuples (number of a row, person), ascending: so many rows, different persons; None in vain.

    For a row that is None the person is None: a new one. Such rows are taken only if the others are not enough."""
    number_of = {}
    for number, row in enumerate(rows):
        if row is not None:
            _seat(rows, number, number_of, {})
    seated = [(number, person) for person, number in number_of.items()]
    found = seated + [(number, None) for number, row in enumerate(rows) if row is None]
    if len(found) < many:
        return None
    return sorted(found[:many], key=lambda part: part[0])


def cover_of(rows, many, turn):
    """Return (numbers, persons), together less than many: each person of a row with another number is one of these.

    Return None if there are none, exactly if so many rows can have persons of their own. There are as many numbers as
    can be: nothing needs to be told of their rows. With another turn other ones are taken, where there is a choice."""
    count = len(rows)
    for part in [part for part in PARTS[count] if len(part) < many]:
        numbers = [(number + turn) % count for number in part]
        others = [row for number, row in enumerate(rows) if number not in numbers]
        if not any([row is None for row in others]):
            persons = sorted({person for row in others for person in row})
            if len(numbers) + len(persons) < many:
                return (tuple(sorted(numbers)), tuple(persons))
    return None


def _seat(rows, number, number_of, tried):
    """Give the row a person of its own, if others that have one can take others; tell whether it has one then."""
    for person in rows[number]:
        if person not in tried:
            tried[person] = True
            if person not in number_of or _seat(rows, number_of[person], number_of, tried):
                number_of[person] = number
                return True
    return False
