"""[11]: Naming, its properties and errors; [2] and [3] as far as they speak of it."""

import itertools
import unittest

from namechains.errors import InvalidChain, InvalidStretch, InvalidWord
from namechains.limits import LIMIT
from namechains.statements import Naming, Statement
from tests import samples

# Right arguments, and for each a wrong value with the error that it brings.
RIGHT = ("ann", "doctor", ("bob", "friend"), (3, 9))
WRONG = ((7, InvalidWord), ("Doc", InvalidWord), (["bob"], InvalidChain), ((9, 3), InvalidStretch))


class RightNamings(unittest.TestCase):
    def check(self, naming, person, name, chain, days):
        self.assertEqual((naming.person, naming.name, naming.chain, naming.days), (person, name, chain, days))
        for text in (naming.person, naming.name, *naming.chain, naming.text):
            self.assertIs(type(text), str)
        for row in (naming.chain, naming.days):
            self.assertIs(type(row), tuple)
        for number in naming.days:
            self.assertIs(type(number), int)

    def test_persons_and_names(self):
        for person, name in itertools.product(samples.RIGHT_WORDS, repeat=2):
            with self.subTest(person=person, name=name):
                self.check(Naming(person, name, ("bob",)), person, name, ("bob",), (0, LIMIT))

    def test_each_letter(self):
        for letter in "abcdefghijklmnopqrstuvwxyz":
            self.check(Naming(letter, letter, (letter,)), letter, letter, (letter,), (0, LIMIT))

    def test_chains(self):
        for chain in samples.RIGHT_CHAINS:
            with self.subTest(chain=chain):
                self.check(Naming("ann", "x", chain), "ann", "x", chain, (0, LIMIT))

    def test_one_word_as_person_and_name(self):
        self.check(Naming("ann", "ann", ("ann", "ann")), "ann", "ann", ("ann", "ann"), (0, LIMIT))

    def test_days(self):
        for days in samples.RIGHT_STRETCHES:
            with self.subTest(days=days):
                self.check(Naming("ann", "x", ("bob",), days), "ann", "x", ("bob",), days)

    def test_no_days_are_all_days(self):
        self.check(Naming("ann", "x", ("bob",), None), "ann", "x", ("bob",), (0, LIMIT))
        self.check(Naming("ann", "x", ("bob",)), "ann", "x", ("bob",), (0, LIMIT))

    def test_arguments_by_position_and_by_name(self):
        days = (3, 9)
        for naming in (
            Naming("ann", "x", ("bob",), days),
            Naming("ann", "x", ("bob",), days=days),
            Naming("ann", "x", chain=("bob",), days=days),
            Naming("ann", name="x", chain=("bob",), days=days),
            Naming(person="ann", name="x", chain=("bob",), days=days),
            Naming(days=days, chain=("bob",), name="x", person="ann"),
        ):
            self.check(naming, "ann", "x", ("bob",), days)

    def test_is_a_statement(self):
        self.assertTrue(issubclass(Naming, Statement))
        self.assertIsInstance(Naming("ann", "x", ("bob",)), Statement)


class WrongNamings(unittest.TestCase):
    def check(self, error, value, *arguments, **named):
        with self.assertRaises(error) as caught:
            Naming(*arguments, **named)
        self.assertIs(type(caught.exception), error)
        self.assertIs(caught.exception.value, value)

    def test_persons(self):
        for value in samples.WRONG_WORDS:
            with self.subTest(value=value):
                self.check(InvalidWord, value, value, "x", ("bob",))
                self.check(InvalidWord, value, person=value, name="x", chain=("bob",))

    def test_names(self):
        for value in samples.WRONG_WORDS:
            with self.subTest(value=value):
                self.check(InvalidWord, value, "ann", value, ("bob",))
                self.check(InvalidWord, value, person="ann", name=value, chain=("bob",))

    def test_chains(self):
        for value in samples.WRONG_CHAINS + samples.RIGHT_SHARES:
            with self.subTest(value=value):
                self.check(InvalidChain, value, "ann", "x", value)
                self.check(InvalidChain, value, person="ann", name="x", chain=value)

    def test_wrong_word_at_each_place_of_a_chain(self):
        for word in samples.WRONG_WORDS:
            for place in range(5):
                chain = ("bob", "a", "b", "c", "d")[:place] + (word,)
                with self.subTest(chain=chain):
                    self.check(InvalidChain, chain, "ann", "x", chain)

    def test_days(self):
        for value in samples.WRONG_STRETCHES:
            with self.subTest(value=value):
                self.check(InvalidStretch, value, "ann", "x", ("bob",), value)
                self.check(InvalidStretch, value, person="ann", name="x", chain=("bob",), days=value)

    def test_any_value_in_each_place(self):
        words = [value for value in samples.ANY_VALUES if value != "ann"]
        for value in words:
            with self.subTest(value=value):
                self.check(InvalidWord, value, value, "x", ("bob",))
                self.check(InvalidWord, value, "ann", value, ("bob",))
        for value in [value for value in samples.ANY_VALUES if value != ("ann",)]:
            with self.subTest(value=value):
                self.check(InvalidChain, value, "ann", "x", value)
        for value in [value for value in samples.ANY_VALUES if value is not None and value != (0, 9)]:
            with self.subTest(value=value):
                self.check(InvalidStretch, value, "ann", "x", ("bob",), value)

    def test_first_wrong_value_of_several(self):
        for places in itertools.product((False, True), repeat=4):
            if any(places):
                arguments = [WRONG[at][0] if places[at] else RIGHT[at] for at in range(4)]
                first = places.index(True)
                with self.subTest(arguments=arguments):
                    self.check(WRONG[first][1], arguments[first], *arguments)

    def test_person_ahead_of_name(self):
        self.check(InvalidWord, "Ann", "Ann", "Doc", ("bob",))

    def test_wrong_values_are_left_as_they_are(self):
        chain, days = ["bob", "friend"], [3, 9]
        self.check(InvalidChain, chain, "ann", "x", chain)
        self.check(InvalidStretch, days, "ann", "x", ("bob",), days)
        self.assertEqual((chain, days), (["bob", "friend"], [3, 9]))
