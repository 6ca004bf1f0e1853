"""The subjects of Leaves: chains, or tuples (k, chains), k of which are needed; and passes, how often they pass on.

Passes None, without a bound, are told as the number ENDLESS, which is greater than all others.
"""

from namechains.limits import MAX_TIMES

# The number of the passes None.
ENDLESS = MAX_TIMES + 1


def is_share(subject):
    """Tell whether the subject is a tuple (k, chains)."""
    return not isinstance(subject[0], str)


def chains_of(subject):
    """Return the chains of the subject."""
    return subject[1] if is_share(subject) else (subject,)


def many_of(subject):
    """Return how many of the chains of the subject are needed."""
    return subject[0] if is_share(subject) else 1


def number_of(passes):
    """Return the number of passes, which may be None."""
    return ENDLESS if passes is None else passes


def passes_of_number(number):
    """Return the passes that have this number."""
    return None if number == ENDLESS else number


def given(number, times):
    """Return the number of the passes that a Leave gives with passes of this number, not 0; times is a number, too."""
    return min(number if number == ENDLESS else number - 1, times)
