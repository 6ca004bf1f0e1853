"""Reads texts piece by piece (section 10)."""

from namechains.checks import is_word
from namechains.errors import InvalidText

# The digits of LIMIT, the greatest number that stands in a text.
MAX_DIGITS = 31


class Reader:
    """The pieces of a text and the place of the next one; what cannot stand there raises InvalidText with the place."""

    def __init__(self, text):
        self.pieces = text.split(" ")
        self.place = 0

    def is_next(self, *signs):
        """Tell whether the next piece is one of these signs; False at the end."""
        return self.place < len(self.pieces) and self.pieces[self.place] in signs

    def is_word_next(self):
        """Tell whether the next piece is a word; False at the end."""
        return self.place < len(self.pieces) and is_word(self.pieces[self.place])

    def is_at_end(self):
        """Tell whether no piece is left."""
        return self.place == len(self.pieces)

    def take_sign(self, *signs):
        """Take the next piece, which is one of these signs, and return it."""
        if not self.is_next(*signs):
            raise InvalidText(self.place)
        return self._taken()

    def take_word(self):
        """Take a word and return it."""
        if not self.is_word_next():
            raise InvalidText(self.place)
        return self._taken()

    def take_number(self, low, high):
        """Take an integer from low to high and return it."""
        if self.is_at_end() or not is_number(self.pieces[self.place], low, high):
            raise InvalidText(self.place)
        return int(self._taken())

    def take_chain(self, most):
        """Take a chain with at most so many names, as many as there are, and return it."""
        words = [self.take_word()]
        while len(words) <= most and self.is_word_next():
            words.append(self._taken())
        return tuple(words)

    def finish(self):
        """Raise InvalidText if a piece is left."""
        if not self.is_at_end():
            raise InvalidText(self.place)

    def _taken(self):
        self.place += 1
        return self.pieces[self.place - 1]


def is_number(text, low, high):
    """Tell whether the text is an integer from low to high, 0 to LIMIT at most, in digits without leading zeros."""
    if not 1 <= len(text) <= MAX_DIGITS or not all(["0" <= digit <= "9" for digit in text]):
        return False
    return (text == "0" or text[0] != "0") and low <= int(text) <= high
