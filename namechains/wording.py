"""Writes the texts of statements (section 10)."""

from namechains.limits import LIMIT
from namechains.subjects import is_share


def naming_text(person, name, chain, days):
    """Return the text of a Naming; days is a stretch."""
    return f"{person} {name} = {_chain_text(chain)}{_days_text(days)}"


def leave_text(person, subject, tags, days, times):
    """Return the text of a Leave; tags and days are stretches."""
    first, last = tags
    return f"{person} > {_subject_text(subject)} : {first} {last}{_days_text(days)}{_times_text(times)}"


def _chain_text(chain):
    return " ".join(chain)


def _subject_text(subject):
    if not is_share(subject):
        return _chain_text(subject)
    number, chains = subject
    listed = " / ".join([_chain_text(chain) for chain in chains])
    return f"{number} / {listed}"


def _days_text(days):
    first, last = days
    if first == 0 and last == LIMIT:
        return ""
    return f" @ {first} {last}"


def _times_text(times):
    if times is None:
        return ""
    return f" + {times}"
