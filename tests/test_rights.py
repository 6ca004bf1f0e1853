"""[60] to [63]: what groups may do; [2], [3], [4] as far as they speak of it."""

import itertools
import random

from namechains.books import Book
from namechains.limits import LIMIT
from namechains.rights import least_blocks, least_groups, may, may_alone, needs, passes_of
from namechains.statements import Leave, Naming
from tests import oracles, right_oracles
from tests.cases import PlainCase
from tests.right_oracles import PASSES

# The example behind [77].
BOOK = Book(Leave("ann", ("ann", "doctor"), (10, 20), (0, 9), 1), Naming("ann", "doctor", ("bob",)),
            Naming("ann", "doctor", ("cy",), (5, 9)), Leave("bob", ("dan",), (15, 30)))
GROUPS = (["cy"], ["dan", "cy"], ["zed", "dan"], ["ann"], ["nobody"], ["dan", "cy", "bob", "ann", "e", "f", "g", "h"])


def books(seed, many, most=9):
    source = random.Random(seed)
    return [right_oracles.random_book(source, source.randint(0, most)) for _ in range(many)]


def leave(person, *chains, many=None, times=None, tags=(0, LIMIT), days=None):
    """A Leave for a chain, or for so many of several ones."""
    return Leave(person, chains[0] if many is None else (many, chains), tags, days, times)


class RightsCase(PlainCase):
    def check_may(self, book, owner, group, expected, number=0, tag=0):
        for asked in (list(group), tuple(group)):
            self.assertIs(may(book.on(number), owner, asked, tag), expected)
        self.assertIs(may(day=book.on(number), owner=owner, group=group, tag=tag), expected)


class May(RightsCase):
    def test_the_example(self):
        for number, tag, group, expected in (
                (0, 15, ["dan"], True), (9, 20, ["dan"], True), (10, 15, ["dan"], False), (0, 14, ["dan"], False),
                (0, 21, ["dan"], False), (5, 10, ["cy"], True), (4, 10, ["cy"], False), (9, 20, ["cy"], True),
                (9, 21, ["cy"], False), (0, 10, ["bob"], True), (0, 10, ["eve"], False)):
            self.check_may(BOOK, "ann", group, expected, number, tag)

    def test_against_the_least_sets(self):
        found = {True: 0, False: 0}
        for book in books(81, 80):
            for owner, group, tag in itertools.product(("ann", "bob", "zed"), GROUPS, (4, 9)):
                expected = right_oracles.may(book, 3, owner, group, tag)
                self.check_may(book, owner, group, expected, 3, tag)
                found[expected] += 1
        self.assertGreater(min(found.values()), 300)

    def test_the_owner_in_the_group(self):
        self.check_may(Book(), "zed", ["zed"], True, LIMIT, LIMIT)
        self.check_may(BOOK, "ann", ["eve", "ann"], True, 10, 0)
        self.check_may(Book(), "zed", ["ann"], False)

    def test_days_and_tags(self):
        book = Book(leave("ann", ("bob",), tags=(3, LIMIT), days=(5, LIMIT)), leave("cy", ("bob",), tags=(0, 3), days=(0, 5)))
        for owner, number, tag, expected in (
                ("ann", 5, 3, True), ("ann", LIMIT, LIMIT, True), ("ann", 4, 3, False), ("ann", 5, 2, False),
                ("cy", 0, 0, True), ("cy", 5, 3, True), ("cy", 6, 3, False), ("cy", 5, 4, False), ("cy", LIMIT, 0, False)):
            self.check_may(book, owner, ["bob"], expected, number, tag)

    def test_times(self):
        book = Book(leave("ann", ("bob",), times=1), leave("bob", ("cy",), times=0), leave("cy", ("dan",)))
        for person, expected in (("bob", True), ("cy", True), ("dan", False)):
            self.check_may(book, "ann", [person], expected)
        longer = Book(*[leave("p" + a, ("p" + b,), times=9 if a == "a" else None) for a, b in zip("abcdefghijk", "bcdefghijkl")])
        self.check_may(longer, "pa", ["pk"], True)
        self.check_may(longer, "pa", ["pl"], False)
        self.check_may(longer, "pb", ["pl"], True)
        endless = Book(*[leave("p" + a, ("p" + b,)) for a, b in zip("abcdefghijklmnop", "bcdefghijklmnopq")])
        self.check_may(endless, "pa", ["pq"], True)

    def test_times_0(self):
        book = Book(leave("ann", ("bob",), times=0), leave("bob", ("cy",)))
        self.check_may(book, "ann", ["bob"], True)
        self.check_may(book, "ann", ["cy"], False)

    def test_circles(self):
        book = Book(leave("ann", ("bob",)), leave("bob", ("ann",)), leave("bob", ("bob",)), leave("cy", ("cy",)))
        self.check_may(book, "ann", ["cy"], False)
        self.check_may(book, "cy", ["ann"], False)
        self.check_may(book, "ann", ["bob"], True)
        self.check_may(book, "bob", ["ann"], True)

    def test_chains_that_mean_nobody(self):
        book = Book(leave("ann", ("bob", "x")), leave("bob", ("cy", "x"), ("bob",), many=1), Naming("cy", "x", ("cy", "x")))
        self.check_may(book, "ann", ["bob", "cy"], False)
        self.check_may(book, "bob", ["cy"], False)

    def test_persons_that_several_chains_share(self):
        book = Book(leave("ann", ("bob", "x"), ("cy", "x"), many=2), Naming("bob", "x", ("dan",)),
                    Naming("cy", "x", ("dan",)), Naming("cy", "x", ("eve",), (5, 9)))
        self.check_may(book, "ann", ["dan"], False)
        self.check_may(book, "ann", ["dan", "eve"], False)
        self.check_may(book, "ann", ["dan", "eve"], True, 5)
        self.check_may(book, "ann", ["eve"], False, 5)

    def test_a_person_moves_for_another_chain(self):
        # The first chain means all three, the others two of them: each needs one of its own.
        book = Book(leave("ann", ("bob", "x"), ("bob", "y"), ("bob", "z"), many=3), *[
            Naming("bob", name, (person,)) for name, persons in (("x", "def"), ("y", "de"), ("z", "d")) for person in persons])
        self.check_may(book, "ann", ["d", "e", "f"], True)
        self.check_may(book, "ann", ["d", "e"], False)
        self.check_may(book, "ann", ["e", "f"], False)
        self.check_may(book, "ann", ["d", "f"], False)

    def test_shares_may_be_passed_on_to_one_person(self):
        book = Book(leave("ann", ("bob",), ("cy",), many=2), leave("bob", ("dan",)), leave("cy", ("dan",)))
        self.check_may(book, "ann", ["dan"], True)
        self.check_may(book, "ann", ["bob"], False)
        self.check_may(book, "ann", ["bob", "cy"], True)
        bound = Book(leave("ann", ("bob",), ("cy",), many=2, times=0), leave("bob", ("dan",)), leave("cy", ("dan",)))
        self.check_may(bound, "ann", ["dan"], False)
        self.check_may(bound, "ann", ["bob", "cy"], True)

    def test_arguments_stay_as_they_were(self):
        group = ["dan", "cy"]
        may(BOOK.on(0), "ann", group, 15)
        needs(BOOK.on(0), group, 15)
        self.assertEqual(group, ["dan", "cy"])


class Needs(RightsCase):
    def test_the_example(self):
        self.same(needs(BOOK.on(7), ["dan"], 16), {"ann": 2, "bob": 1, "dan": 0})
        self.same(needs(day=BOOK.on(7), group=("cy", "zed"), tag=16), {"ann": 1, "cy": 0, "zed": 0})
        self.same(needs(Book().on(0), ["zed", "ann"], 0), {"ann": 0, "zed": 0})

    def test_least_passes(self):
        for book in books(82, 100):
            rules, leaves = oracles.rules_on(book, 3), right_oracles.counting(book, 3, 4)
            for group in GROUPS:
                met = right_oracles.met_pairs(rules, leaves, {person: 0 for person in group})
                expected = {person: [passes for passes in PASSES if (person, passes) in met][0]
                            for person in sorted({person for person, _ in met})}
                found = needs(book.on(3), group, 4)
                self.same(found, expected)
                self.assertEqual(list(found), list(expected))

    def test_passes_beyond_nine(self):
        endless = Book(*[leave("p" + a, ("p" + b,)) for a, b in zip("abcdefghijkl", "bcdefghijklm")])
        found = needs(endless.on(0), ["pm"], 0)
        self.same(found, {"p" + letter: at for letter, at in zip(
            "abcdefghijklm", [None, None, None, 9, 8, 7, 6, 5, 4, 3, 2, 1, 0])})
        self.assertEqual(list(found), sorted(found))

    def test_new_dicts(self):
        needs(BOOK.on(7), ["dan"], 16)["eve"] = 1
        self.assertNotIn("eve", needs(BOOK.on(7), ["dan"], 16))


class OnesAlone(RightsCase):
    def test_the_example(self):
        self.same(may_alone(BOOK.on(7), "ann", 16), ["ann", "bob", "cy", "dan"])
        self.same(may_alone(day=BOOK.on(4), owner="ann", tag=12), ["ann", "bob"])
        self.same(may_alone(BOOK.on(4), "zed", 12), ["zed"])
        self.same(may_alone(Book().on(0), "zed", 0), ["zed"])

    def test_against_groups_of_one(self):
        for book in books(83, 60):
            for owner in ("ann", "bob", "zed"):
                expected = [person for person in sorted({*book.persons, owner})
                            if right_oracles.may(book, 3, owner, [person], 4)]
                self.same(may_alone(book.on(3), owner, 4), expected)

    def test_new_lists(self):
        may_alone(BOOK.on(7), "ann", 16).clear()
        self.same(may_alone(BOOK.on(7), "ann", 16), ["ann", "bob", "cy", "dan"])


class Passes(RightsCase):
    def test_the_example(self):
        self.same([passes_of(BOOK.on(7), "ann", person, 16) for person in ("ann", "bob", "cy", "dan", "eve")],
                  [None, 1, 1, 0, -1])
        self.same(passes_of(day=BOOK.on(7), owner="ann", person="bob", tag=16), 1)

    def test_each_number(self):
        for times in PASSES:
            book = Book(leave("ann", ("bob",), times=times), leave("bob", ("cy",), times=5))
            self.same(passes_of(book.on(0), "ann", "bob", 0), times)
            expected = -1 if times == 0 else right_oracles.lesser(5, right_oracles.less(times))
            self.same(passes_of(book.on(0), "ann", "cy", 0), expected)

    def test_by_the_least_sets(self):
        for book in books(84, 100):
            rules, leaves = oracles.rules_on(book, 3), right_oracles.counting(book, 3, 4)
            for owner, person in itertools.product(("ann", "bob", "zed"), ("ann", "cy", "dan", "zed")):
                able = [passes for passes in PASSES
                        if (owner, None) in right_oracles.met_pairs(rules, leaves, {person: passes})]
                is_able = right_oracles.may(book, 3, owner, [person], 4)
                self.assertEqual(is_able, bool(able))
                self.same(passes_of(book.on(3), owner, person, 4), able[-1] if able else -1)

    def test_shares(self):
        book = Book(leave("ann", ("bob",), ("cy",), many=2), leave("bob", ("dan",), times=3), leave("cy", ("dan",), times=5))
        self.same([passes_of(book.on(0), "ann", person, 0) for person in ("ann", "bob", "dan")], [None, -1, 3])


class LeastSets(RightsCase):
    def test_the_example(self):
        day = BOOK.on(7)
        self.same(least_groups(day, "ann", 16, 3), [("bob",), ("cy",), ("dan",)])
        self.same(least_blocks(day, "ann", 16, 3), [("bob", "cy", "dan")])
        self.same(least_groups(day=day, owner="ann", tag=12, most=1), [("bob",), ("cy",)])
        self.same(least_blocks(day=day, owner="ann", tag=12, most=2), [("bob", "cy")])
        self.same(least_blocks(day, "ann", 16, 2), [])

    def test_against_all_sets(self):
        for book, most in itertools.product(books(85, 60), (1, 2, 3)):
            for owner in ("ann", "zed"):
                helpers = [person for person in book.persons if person != owner]

                def is_able(group):
                    return right_oracles.may(book, 3, owner, group, 4)

                def is_block(block):
                    return not is_able([person for person in helpers if person not in block])

                self.same(least_groups(book.on(3), owner, 4, most), right_oracles.least_of(helpers, most, is_able))
                self.same(least_blocks(book.on(3), owner, 4, most), right_oracles.least_of(helpers, most, is_block))

    def test_no_helpers(self):
        for book in (Book(), Book(Naming("ann", "x", ("ann",))), Book(leave("ann", ("ann",)))):
            self.same([least_groups(book.on(0), "ann", 0, most) for most in (1, 2, 3)], [[], [], []])
            self.same([least_blocks(book.on(0), "ann", 0, most) for most in (1, 2, 3)], [[()], [()], [()]])

    def test_helpers_who_may_not(self):
        book = Book(leave("ann", ("bob",), ("cy", "x"), many=2), Naming("cy", "x", ("bob",)))
        self.same(least_groups(book.on(0), "ann", 0, 3), [])
        self.same(least_blocks(book.on(0), "ann", 0, 3), [()])

    def test_groups_of_three(self):
        book = Book(leave("ann", ("d",), ("b",), ("c",), many=3), leave("ann", ("e",), ("d",), ("f",), ("g",), many=4))
        self.same(least_groups(book.on(0), "ann", 0, 3), [("b", "c", "d")])
        self.same([least_groups(book.on(0), "ann", 0, most) for most in (1, 2)], [[], []])
        self.same(least_blocks(book.on(0), "ann", 0, 1), [("d",)])
        self.same(least_blocks(book.on(0), "ann", 0, 3)[:3], [("d",), ("b", "e"), ("b", "f")])

    def test_many_helpers(self):
        names = [a + b for a in "abcdefgh" for b in "abcdefghijkl"]
        rows = [names[at:at + 4] for at in range(0, 96, 4)]
        book = Book(*[leave("ann", *[(name,) for name in row], many=3) for row in rows])
        expected = sorted([group for row in rows for group in itertools.combinations(row, 3)])
        self.same(least_groups(book.on(0), "ann", 0, 3), expected)
        self.same(least_blocks(book.on(0), "ann", 0, 3), [])
        few = Book(*[leave("ann", *[(name,) for name in row], many=3) for row in rows[:1]])
        self.same(least_blocks(few.on(0), "ann", 0, 3), sorted(itertools.combinations(rows[0], 2)))
