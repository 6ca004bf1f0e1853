"""Values that are nearly papers: a paper, changed in one place in every way that may matter."""


def variants(value):
    """Values that differ from this one, a nested tuple, in one place; some of them may be right papers, too."""
    yield from replacements(value)
    if isinstance(value, tuple):
        yield list(value)
        yield (*value, None)
        yield from (value + (part,) for part in value[:1])
        for at, part in enumerate(value):
            yield value[:at] + value[at + 1:]
            yield value[:at] + (part,) + value[at:]
            if at:
                yield value[:at - 1] + (part, value[at - 1]) + value[at + 1:]
            for other in variants(part):
                yield value[:at] + (other,) + value[at + 1:]


def replacements(value):
    """Other values in the place of a whole value."""
    yield from (None, (), "bob", 1)
    if isinstance(value, str):
        yield from (value + "a", value.upper(), "", value + "\n", (value,), "yes", "no", "ann", "x", "y")
    if isinstance(value, int):
        yield from (value + 1, value - 1, -1, -value - 1, bool(value & 1), value + 100, str(value), 10 ** 40)
