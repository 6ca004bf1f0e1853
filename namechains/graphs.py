"""Numbers that lead to one another, told by a list: for each number from 0 on the list of those to which it leads.

What stands here runs behind operators and properties of Names: it changes only what it has created itself.
"""


def grouped(pairs, count):
    """Return a list: for each number below count an ascending list of what the pairs (number, what) have beside it."""
    by_number = sorted(pairs)
    rows = []
    at = 0
    for number in range(count):
        first = at
        while at < len(by_number) and by_number[at][0] == number:
            at += 1
        rows.append([what for _, what in by_number[first:at]])
    return rows


def leads_of(table):
    """Return the list that tells for each state to which ones it moves, once for each word."""
    return [[lead for _, lead in moves] for _, moves in table]


def turned(leads):
    """Return the list that tells for each number which ones lead to it."""
    return grouped([(target, at) for at, targets in enumerate(leads) for target in targets], len(leads))


def reached_from(numbers, leads):
    """Return a dict whose keys are these numbers and all to which they lead."""
    queue = list(numbers)
    found = {}
    for number in numbers:
        found[number] = True
    while queue:
        number = queue.pop()
        for target in leads[number]:
            if target not in found:
                found[target] = True
                queue.append(target)
    return found


def order_of(leads):
    """Return the numbers so that each leads to later ones only; without those on circles, or to which circles lead."""
    missing = [len(sources) for sources in turned(leads)]
    order = [number for number, many in enumerate(missing) if many == 0]
    done = 0
    while done < len(order):
        number = order[done]
        done += 1
        for target in leads[number]:
            missing[target] = missing[target] - 1
            if missing[target] == 0:
                order.append(target)
    return order
