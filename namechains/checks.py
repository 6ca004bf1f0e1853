"""Tells of any value whether it is a word, an integer, a chain, a stretch, a subject or times."""

from namechains.limits import LIMIT, MAX_CHAINS, MAX_LETTERS, MAX_NAMES, MAX_TIMES


def is_integer_in(value, low, high):
    """Tell whether the value is an integer from low to high."""
    # To Python True and False are integers, too; to the document they are none.
    return isinstance(value, int) and not isinstance(value, bool) and low <= value <= high


def is_word(value):
    """Tell whether the value is a string of 1 to MAX_LETTERS letters from a to z."""
    # The length comes first: a string may be of any length.
    if not isinstance(value, str) or not 1 <= len(value) <= MAX_LETTERS:
        return False
    return all(["a" <= letter <= "z" for letter in value])


def is_chain(value, most):
    """Tell whether the value is a chain with at most so many names."""
    if not isinstance(value, tuple) or not 1 <= len(value) <= 1 + most:
        return False
    return all([is_word(word) for word in value])


def is_stretch(value):
    """Tell whether the value is a stretch of days or of tags."""
    if not isinstance(value, tuple) or len(value) != 2:
        return False
    first, last = value
    return is_integer_in(first, 0, LIMIT) and is_integer_in(last, first, LIMIT)


def is_subject(value):
    """Tell whether the value is a subject of a Leave."""
    return is_chain(value, MAX_NAMES) or _is_share(value)


def is_times(value):
    """Tell whether the value tells how often a Leave may be passed on."""
    return value is None or is_integer_in(value, 0, MAX_TIMES)


def _is_share(value):
    """Tell whether the value is a tuple (k, chains), k of which are needed."""
    if not isinstance(value, tuple) or len(value) != 2:
        return False
    number, chains = value
    return _are_unlike_chains(chains) and is_integer_in(number, 1, len(chains))


def _are_unlike_chains(value):
    """Tell whether the value is a tuple of 1 to MAX_CHAINS different chains of a statement."""
    if not isinstance(value, tuple) or not 1 <= len(value) <= MAX_CHAINS:
        return False
    return all([is_chain(chain, MAX_NAMES) for chain in value]) and len(set(value)) == len(value)
