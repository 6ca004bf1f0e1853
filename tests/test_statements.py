"""[11], [90]: what all statements have: is_of, ==, text."""

import unittest

from namechains.limits import LIMIT
from namechains.statements import Leave, Naming
from tests import samples

STATEMENTS = [
    Naming("ann", "doc", ("bob",)),
    Naming("bob", "doc", ("bob",)),
    Naming("ann", "nurse", ("bob",)),
    Naming("ann", "doc", ("cleo",)),
    Naming("ann", "doc", ("bob", "doc")),
    Naming("ann", "doc", ("bob",), (0, LIMIT - 1)),
    Naming("ann", "doc", ("bob",), (1, LIMIT)),
    Leave("ann", ("bob",), (1, 2)),
    Leave("bob", ("bob",), (1, 2)),
    Leave("ann", ("cleo",), (1, 2)),
    Leave("ann", ("bob", "doc"), (1, 2)),
    Leave("ann", (1, (("bob",),)), (1, 2)),
    Leave("ann", (1, (("bob",), ("cleo",))), (1, 2)),
    Leave("ann", (2, (("bob",), ("cleo",))), (1, 2)),
    Leave("ann", (2, (("cleo",), ("bob",))), (1, 2)),
    Leave("ann", ("bob",), (0, 2)),
    Leave("ann", ("bob",), (1, 3)),
    Leave("ann", ("bob",), (1, 2), (0, LIMIT - 1)),
    Leave("ann", ("bob",), (1, 2), (1, LIMIT)),
    Leave("ann", ("bob",), (1, 2), (1, 2)),
    Leave("ann", ("bob",), (1, 2), None, 0),
    Leave("ann", ("bob",), (1, 2), None, 9),
    Leave("ann", ("bob",), (1, 2), (1, 2), 9),
]


def anew(value):
    """An equal value of which no part is the same object, as far as Python makes one."""
    if isinstance(value, str):
        return "".join(list(value))
    if isinstance(value, tuple):
        return tuple([anew(part) for part in value])
    return None if value is None else int(str(value))


def copy_of(statement):
    """A statement made anew from the properties of this one."""
    if isinstance(statement, Naming):
        return Naming(*map(anew, (statement.person, statement.name, statement.chain, statement.days)))
    return Leave(*map(anew, (
        statement.person, statement.subject, statement.tags, statement.days, statement.times)))


def of_days(days):
    return [Naming("ann", "x", ("bob",), days), Leave("ann", ("bob",), (1, 2), days, 3)]


class IsOf(unittest.TestCase):
    def check(self, days, inside, beside):
        for statement in of_days(days):
            for number in inside:
                with self.subTest(days=days, number=number):
                    self.assertIs(statement.is_of(number), True)
                    self.assertIs(statement.is_of(number=number), True)
            for number in beside:
                with self.subTest(days=days, number=number):
                    self.assertIs(statement.is_of(number), False)
                    self.assertIs(statement.is_of(number=number), False)

    def test_ends_inside_and_beside(self):
        self.check((3, 9), [3, 4, 6, 8, 9], [0, 1, 2, 10, 11, LIMIT])

    def test_one_day(self):
        self.check((0, 0), [0], [1, 2, LIMIT])
        self.check((7, 7), [7], [0, 6, 8, LIMIT])
        self.check((LIMIT, LIMIT), [LIMIT], [0, 1, LIMIT - 1])

    def test_all_days(self):
        for days in (None, (0, LIMIT)):
            self.check(days, [0, 1, 10 ** 15, LIMIT - 1, LIMIT], [])

    def test_days_count_and_not_tags(self):
        leave = Leave("ann", ("bob",), (10, 20), (3, 9), 5)
        self.assertEqual([leave.is_of(number) for number in (3, 5, 10)], [True, True, False])


class Equality(unittest.TestCase):
    def check(self, one, other, are_equal):
        self.assertIs(one == other, are_equal)
        self.assertIs(other == one, are_equal)
        self.assertIs(one != other, not are_equal)
        self.assertIs(other != one, not are_equal)

    def test_equal_ones(self):
        for statement in STATEMENTS:
            with self.subTest(statement.text):
                self.check(statement, statement, True)
                self.check(statement, copy_of(statement), True)

    def test_one_part_changed(self):
        for at, one in enumerate(STATEMENTS):
            for other in STATEMENTS[at + 1:]:
                with self.subTest(one.text, other=other.text):
                    self.check(one, other, False)

    def test_no_days_are_all_days(self):
        for one, other in zip(of_days(None), of_days((0, LIMIT))):
            self.check(one, other, True)

    def test_no_times_are_not_all_times(self):
        one = Leave("ann", ("bob",), (1, 2))
        for times in range(10):
            self.check(one, Leave("ann", ("bob",), (1, 2), times=times), False)

    def test_a_naming_and_a_leave(self):
        self.check(Naming("ann", "x", ("bob",), (1, 2)), Leave("ann", ("bob",), (1, 2), (1, 2)), False)

    def test_values_of_another_kind(self):
        naming = Naming("ann", "x", ("bob",), (1, 2))
        leave = Leave("ann", ("bob",), (1, 2), (3, 4), 5)
        others = [
            naming.text, leave.text, ("ann", "x", ("bob",), (1, 2)), ["ann", "x", ("bob",), (1, 2)],
            ("ann", ("bob",), (1, 2), (3, 4), 5), {"person": "ann"}, *samples.ANY_VALUES,
        ]
        for other in others:
            with self.subTest(other=other):
                self.check(naming, other, False)
                self.check(leave, other, False)

    def test_in_a_list(self):
        for at, statement in enumerate(STATEMENTS):
            self.assertEqual(STATEMENTS.index(copy_of(statement)), at)


class Texts(unittest.TestCase):
    def check(self, statement, text):
        self.assertEqual(statement.text, text)
        self.assertIs(type(statement.text), str)

    def test_examples(self):
        self.check(Naming("ann", "doctor", ("bob", "office")), "ann doctor = bob office")
        self.check(Naming("ann", "doctor", ("cleo",), (3, 9)), "ann doctor = cleo @ 3 9")
        self.check(
            Leave("ann", (2, (("bob", "friend"), ("cleo",), ("dan",))), (10, 20), (0, 7), 1),
            "ann > 2 / bob friend / cleo / dan : 10 20 @ 0 7 + 1")
        self.check(Naming("ann", "x", ("bob",)), "ann x = bob")

    def test_chains(self):
        for chain, text in (
            (("b",), "b"), (("bob", "bob"), "bob bob"), (("bob", "a", "b", "c", "d"), "bob a b c d"),
        ):
            self.check(Naming("ann", "x", chain), f"ann x = {text}")
            self.check(Leave("ann", chain, (1, 2)), f"ann > {text} : 1 2")

    def test_subjects(self):
        self.check(Leave("ann", (1, (("bob",),)), (1, 2)), "ann > 1 / bob : 1 2")
        self.check(Leave("ann", (1, (("cleo",), ("bob", "a"))), (1, 2)), "ann > 1 / cleo / bob a : 1 2")
        for number in (1, 2, 3, 4):
            self.check(
                Leave("ann", (number, samples.FOUR_CHAINS), (1, 2)),
                f"ann > {number} / bob / bob friend / cleo / dan a b c d : 1 2")

    def test_days(self):
        big = "1" + "0" * 30
        for days, text in (
            (None, ""), ((0, LIMIT), ""), ((0, int(big)), ""), ((0, 0), " @ 0 0"), ((1, LIMIT), f" @ 1 {big}"),
            ((0, LIMIT - 1), " @ 0 " + "9" * 30), ((LIMIT, LIMIT), f" @ {big} {big}"), ((10, 200), " @ 10 200"),
        ):
            with self.subTest(days=days):
                self.check(Naming("ann", "x", ("bob",), days), f"ann x = bob{text}")
                self.check(Leave("ann", ("bob",), (1, 2), days), f"ann > bob : 1 2{text}")
                self.check(Leave("ann", ("bob",), (1, 2), days, 4), f"ann > bob : 1 2{text} + 4")

    def test_tags_are_never_left_out(self):
        big = "1" + "0" * 30
        for tags, text in (
            ((0, 0), "0 0"), ((0, LIMIT), f"0 {big}"), ((LIMIT, LIMIT), f"{big} {big}"), ((7, 70), "7 70"),
        ):
            with self.subTest(tags=tags):
                self.check(Leave("ann", ("bob",), tags), f"ann > bob : {text}")

    def test_times(self):
        self.check(Leave("ann", ("bob",), (1, 2), None, None), "ann > bob : 1 2")
        for times in range(10):
            self.check(Leave("ann", ("bob",), (1, 2), None, times), f"ann > bob : 1 2 + {times}")
            self.check(Leave("ann", ("bob",), (1, 2), (3, 4), times), f"ann > bob : 1 2 @ 3 4 + {times}")

    def test_pieces_have_single_spaces_between_them(self):
        for statement in STATEMENTS:
            self.assertEqual(" ".join(statement.text.split()), statement.text)
