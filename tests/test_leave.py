"""[11]: Leave, its properties and errors; [2] and [3] as far as they speak of it."""

import itertools
import unittest

from namechains.errors import InvalidStretch, InvalidSubject, InvalidTimes, InvalidWord
from namechains.limits import LIMIT
from namechains.statements import Leave, Statement
from tests import samples

# Right arguments, and for each a wrong value with the error that it brings.
RIGHT = ("ann", (1, (("bob",), ("cleo",))), (10, 20), (3, 9), 2)
WRONG = (
    ("ann\n", InvalidWord), ((3, (("bob",), ("cleo",))), InvalidSubject), ((20, 10), InvalidStretch),
    ((9, 3), InvalidStretch), (10, InvalidTimes),
)


class RightLeaves(unittest.TestCase):
    def check(self, leave, person, subject, tags, days, times):
        self.assertEqual(
            (leave.person, leave.subject, leave.tags, leave.days, leave.times), (person, subject, tags, days, times))
        for text in (leave.person, leave.text):
            self.assertIs(type(text), str)
        for row in (leave.subject, leave.tags, leave.days):
            self.assertIs(type(row), tuple)
        for number in (*leave.tags, *leave.days):
            self.assertIs(type(number), int)
        self.assertIs(type(leave.times), type(times))

    def test_persons(self):
        for person in samples.RIGHT_WORDS:
            self.check(Leave(person, ("bob",), (0, 0)), person, ("bob",), (0, 0), (0, LIMIT), None)

    def test_subjects(self):
        for subject in samples.RIGHT_SUBJECTS:
            with self.subTest(subject=subject):
                self.check(Leave("ann", subject, (1, 2)), "ann", subject, (1, 2), (0, LIMIT), None)

    def test_tags(self):
        for tags in samples.RIGHT_STRETCHES:
            with self.subTest(tags=tags):
                self.check(Leave("ann", ("bob",), tags), "ann", ("bob",), tags, (0, LIMIT), None)

    def test_days(self):
        for days in samples.RIGHT_STRETCHES:
            with self.subTest(days=days):
                self.check(Leave("ann", ("bob",), (1, 2), days), "ann", ("bob",), (1, 2), days, None)

    def test_no_days_are_all_days(self):
        self.check(Leave("ann", ("bob",), (1, 2), None), "ann", ("bob",), (1, 2), (0, LIMIT), None)
        self.check(Leave("ann", ("bob",), (1, 2), None, 3), "ann", ("bob",), (1, 2), (0, LIMIT), 3)

    def test_times(self):
        for times in samples.RIGHT_TIMES:
            with self.subTest(times=times):
                self.check(Leave("ann", ("bob",), (1, 2), (3, 4), times), "ann", ("bob",), (1, 2), (3, 4), times)

    def test_arguments_by_position_and_by_name(self):
        chain, tags, days = ("bob",), (1, 2), (3, 4)
        for leave in (
            Leave("ann", chain, tags, days, 5),
            Leave("ann", chain, tags, days, times=5),
            Leave("ann", chain, tags, days=days, times=5),
            Leave("ann", chain, tags=tags, days=days, times=5),
            Leave("ann", subject=chain, tags=tags, days=days, times=5),
            Leave(person="ann", subject=chain, tags=tags, days=days, times=5),
            Leave(times=5, days=days, tags=tags, subject=chain, person="ann"),
        ):
            self.check(leave, "ann", chain, tags, days, 5)
        self.check(Leave("ann", chain, tags, times=5), "ann", chain, tags, (0, LIMIT), 5)

    def test_is_a_statement(self):
        self.assertTrue(issubclass(Leave, Statement))
        self.assertIsInstance(Leave("ann", ("bob",), (1, 2)), Statement)


class WrongLeaves(unittest.TestCase):
    def check(self, error, value, *arguments, **named):
        with self.assertRaises(error) as caught:
            Leave(*arguments, **named)
        self.assertIs(type(caught.exception), error)
        self.assertIs(caught.exception.value, value)

    def test_persons(self):
        for value in samples.WRONG_WORDS:
            with self.subTest(value=value):
                self.check(InvalidWord, value, value, ("bob",), (1, 2))
                self.check(InvalidWord, value, person=value, subject=("bob",), tags=(1, 2))

    def test_subjects(self):
        for value in samples.WRONG_SUBJECTS:
            with self.subTest(value=value):
                self.check(InvalidSubject, value, "ann", value, (1, 2))
                self.check(InvalidSubject, value, person="ann", subject=value, tags=(1, 2))

    def test_each_number_beyond_the_chains(self):
        for many in (1, 2, 3, 4):
            for number in (-1, 0, many + 1, True, False, None):
                subject = (number, samples.FOUR_CHAINS[:many])
                with self.subTest(subject=subject):
                    self.check(InvalidSubject, subject, "ann", subject, (1, 2))

    def test_wrong_chain_at_each_place_of_a_subject(self):
        wrong = samples.WRONG_CHAINS + [("eve", word) for word in samples.WRONG_WORDS]
        for chain, place in itertools.product(wrong, range(4)):
            subject = (1, samples.FOUR_CHAINS[:place] + (chain,) + samples.FOUR_CHAINS[place + 1:])
            with self.subTest(subject=subject):
                self.check(InvalidSubject, subject, "ann", subject, (1, 2))

    def test_equal_chains_at_any_two_places(self):
        for one, other in itertools.combinations(range(4), 2):
            chains = list(samples.FOUR_CHAINS)
            chains[other] = chains[one]
            subject = (1, tuple(chains))
            with self.subTest(subject=subject):
                self.check(InvalidSubject, subject, "ann", subject, (1, 2))

    def test_tags(self):
        for value in [None, *samples.WRONG_STRETCHES]:
            with self.subTest(value=value):
                self.check(InvalidStretch, value, "ann", ("bob",), value)
                self.check(InvalidStretch, value, person="ann", subject=("bob",), tags=value)

    def test_days(self):
        for value in samples.WRONG_STRETCHES:
            with self.subTest(value=value):
                self.check(InvalidStretch, value, "ann", ("bob",), (1, 2), value)
                self.check(InvalidStretch, value, person="ann", subject=("bob",), tags=(1, 2), days=value)

    def test_times(self):
        for value in samples.WRONG_TIMES:
            with self.subTest(value=value):
                self.check(InvalidTimes, value, "ann", ("bob",), (1, 2), None, value)
                self.check(InvalidTimes, value, "ann", ("bob",), (1, 2), times=value)

    def test_any_value_in_each_place(self):
        places = (
            (InvalidWord, ["ann"]), (InvalidSubject, [("ann",)]), (InvalidStretch, [(0, 9)]),
            (InvalidStretch, [None, (0, 9)]), (InvalidTimes, [None]),
        )
        for at, (error, right) in enumerate(places):
            for value in samples.ANY_VALUES:
                is_times = at == 4 and type(value) is int and 0 <= value <= 9
                if value not in right and not is_times:
                    with self.subTest(at=at, value=value):
                        self.check(error, value, *RIGHT[:at], value, *RIGHT[at + 1:])

    def test_first_wrong_value_of_several(self):
        for places in itertools.product((False, True), repeat=5):
            if any(places):
                arguments = [WRONG[at][0] if places[at] else RIGHT[at] for at in range(5)]
                first = places.index(True)
                with self.subTest(arguments=arguments):
                    self.check(WRONG[first][1], arguments[first], *arguments)

    def test_wrong_values_are_left_as_they_are(self):
        subject, tags = [1, [["bob"]]], [3, 9]
        self.check(InvalidSubject, subject, "ann", subject, (1, 2))
        self.check(InvalidStretch, tags, "ann", ("bob",), tags)
        self.assertEqual((subject, tags), ([1, [["bob"]]], [3, 9]))
