"""The lines of logs [85]: N + STATEMENT SUM, N - STATEMENT SUM, N . SUM."""

from namechains.errors import InvalidText
from namechains.texts import read_statement

# Sums are told modulo this number.
MODULUS = 9973

# How often the sum of the line before goes into a sum.
WEIGHT = 31


def written_line(number, said, before):
    """Return (line, sum) of the line with this number; before is the sum of the line before it."""
    body = f"{number} {said} "
    total = _sum_of(body, before)
    return (f"{body}{total}", total)


def read_log(person, text):
    """Return (how many lines are read, their text, the statements that are there, whether the person is closed).

    The statements stand in the order in which they were last stated."""
    read = []
    # The statements that lines of the log name, and the texts of those that are there, the last one stated last.
    known = {}
    there = {}
    before = 0
    # What stands behind the last newline is no whole line.
    for line in text.split("\n")[:-1]:
        said = _said_in(line, len(read) + 1)
        if not _can_follow(said, person, known, there):
            break
        expected, before = written_line(len(read) + 1, said, before)
        if line != expected:
            break
        read.append(line)
        if said == ".":
            break
        if said[0] == "+":
            there[said[2:]] = True
        else:
            del there[said[2:]]
    is_closed = bool(read) and _said_in(read[-1], len(read)) == "."
    return (len(read), "".join([f"{line}\n" for line in read]), [known[one] for one in there], is_closed)


def _sum_of(body, before):
    """Return the sum behind the body of a line, its last space included."""
    codes = sum([place * ord(letter) for place, letter in enumerate(body, start=1)])
    return (WEIGHT * before + codes) % MODULUS


def _said_in(line, number):
    """Return what stands between this number, at the head of the line, and its sum; the empty text in vain."""
    body, _, _ = line.rpartition(" ")
    head = f"{number} "
    return body[len(head):] if body.startswith(head) else ""


def _can_follow(said, person, known, there):
    """Tell whether a line of the person's log may say this while there are these texts; what it names gets known."""
    if said == ".":
        return True
    if said[:2] != "+ " and said[:2] != "- ":
        return False
    text = said[2:]
    if text not in known:
        try:
            known[text] = read_statement(text)
        except InvalidText:
            return False
    return known[text].person == person and (text in there) == (said[0] == "-")
