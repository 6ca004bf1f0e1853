"""[31]: what is asked of Names: operators, comparisons, numbers of chains, their order, loops; [2], [3] likewise."""

import itertools
import random

from namechains.errors import InvalidCount
from namechains.languages import Names
from namechains.limits import LIMIT
from tests import oracles, samples, tables
from tests.cases import PlainCase

NONE = Names()
FINITE = Names(("ann",), ("ann", "x"), ("bob", "x", "y"))
OTHER = Names(("ann", "x"), ("bob", "x"), ("cy",))
# All chains of ann with names x, and all of ann and bob with an even number of names x or y.
ENDLESS = Names.of_table(((False, (("ann", 1),)), (True, (("x", 1),))))
EVEN = Names.of_table(((False, (("ann", 1), ("bob", 1))), (True, (("x", 2), ("y", 2))), (False, (("x", 1), ("y", 1)))))
SETS = [NONE, FINITE, OTHER, ENDLESS, EVEN]
CHAINS = oracles.all_chains(("ann", "bob", "cy"), ("x", "y"), 5)


def random_sets(seed, many):
    source = random.Random(seed)
    return [Names.of_table(tables.random_table(source, source.randint(1, 5))) for _ in range(many)]


class SetsCase(PlainCase):
    def check_least(self, names):
        """The table is of the told form and the least one."""
        self.assertIsInstance(names, Names)
        self.assertTrue(oracles.are_plain(names.table))
        if len(names.table) <= 9:
            self.assertEqual(names.table, tables.least(names.table))


class Operators(SetsCase):
    def check_chains(self, one, other, chains):
        both = (one | other, one & other, one - other)
        for chain in chains:
            self.assertIs(chain in both[0], chain in one or chain in other)
            self.assertIs(chain in both[1], chain in one and chain in other)
            self.assertIs(chain in both[2], chain in one and chain not in other)
        for found in both:
            self.check_least(found)

    def test_each_pair(self):
        for one, other in itertools.product(SETS, repeat=2):
            tables_before = (one.table, other.table)
            self.check_chains(one, other, CHAINS)
            self.assertEqual((one.table, other.table), tables_before)

    def test_both_sets_stay_as_they_were(self):
        for one, other in itertools.product([*SETS, *random_sets(26, 6)], repeat=2):
            before = [(names.table, names.size, names.least, names.persons, names.names) for names in (one, other)]
            for found in (one | other, one & other, one - other):
                self.assertIsInstance(found, Names)
            after = [(names.table, names.size, names.least, names.persons, names.names) for names in (one, other)]
            self.same(after, before)
            self.assertEqual([one | other, one & other, one - other], [one | other, one & other, one - other])

    def test_random_sets(self):
        sets = random_sets(21, 16)
        chains = [row for many in range(1, 7) for row in itertools.product("ab", repeat=many)]
        for one, other in itertools.combinations(sets, 2):
            self.check_chains(one, other, chains)

    def test_tables_of_what_they_make(self):
        self.same((Names(("ann",)) | Names(("bob",))).table, Names(("ann",), ("bob",)).table)
        self.same((FINITE & OTHER).table, Names(("ann", "x")).table)
        self.same((FINITE - OTHER).table, Names(("ann",), ("bob", "x", "y")).table)
        self.same((ENDLESS - ENDLESS).table, ((False, ()),))
        self.same((ENDLESS & Names(("bob",))).table, ((False, ()),))
        self.same((ENDLESS | EVEN | ENDLESS).table, (EVEN | ENDLESS).table)
        self.same((ENDLESS - Names(("ann",))).table,
                  ((False, (("ann", 1),)), (False, (("x", 2),)), (True, (("x", 2),))))
        self.same((ENDLESS & EVEN).table, ((False, (("ann", 1),)), (True, (("x", 2),)), (False, (("x", 1),))))
        self.same((NONE | NONE).table, ((False, ()),))

    def test_many_states(self):
        one = Names.of_table(tables.ring(59, (58,)))
        other = Names.of_table(tables.ring(58, (57,)))
        both = one & other
        self.assertEqual(len(both.table), 59 * 58 + 1)
        self.same(both.least, ("p",) + ("a",) * (59 * 58 - 1))
        self.same(one.difference(both), (0, ("p",) + ("a",) * 58))
        self.assertIsNone((one | other).difference((one - both) | other))
        self.assertEqual(one, (one - other) | both)
        self.assertNotEqual(one, one - other)
        self.assertIsNone(both.size)
        self.assertIs(both.is_within(other), True)
        self.assertIs((one - other).is_within(one - both), True)


class Comparisons(SetsCase):
    def check_equal(self, one, other, are_equal):
        for left, right in ((one, other), (other, one)):
            self.assertIs(left == right, are_equal)
            self.assertIs(left != right, not are_equal)

    def test_equal_sets(self):
        self.check_equal(Names(), FINITE - FINITE, True)
        self.check_equal(FINITE, Names(*list(FINITE.ordered())[::-1]), True)
        self.check_equal(FINITE, (FINITE | OTHER) - (OTHER - FINITE), True)
        self.check_equal(ENDLESS, Names.of_table(tables.ring(3, (0, 1, 2), ("x",))).headed(("p",))
                         | ENDLESS, False)
        self.check_equal(ENDLESS, Names.of_table(
            ((False, (("ann", 2),)), (True, (("x", 2),)), (True, (("x", 1),)))), True)
        self.check_equal(ENDLESS, ENDLESS, True)

    def test_unequal_sets(self):
        for one, other in itertools.combinations(SETS, 2):
            self.check_equal(one, other, False)
        self.check_equal(ENDLESS, ENDLESS - Names(("ann",) + ("x",) * 8), False)
        self.check_equal(Names(("ann", "x")), Names(("x", "ann")), False)

    def test_values_of_another_kind(self):
        for names in SETS:
            for other in [names.table, list(FINITE.ordered()), ("ann",), {("ann",)}, *samples.ANY_VALUES]:
                self.check_equal(names, other, False)

    def test_bool(self):
        self.assertIs(bool(NONE), False)
        self.assertIs(bool(Names.of_table(((False, (("p", 0),)), (True, ())))), False)
        for names in SETS[1:]:
            self.assertIs(bool(names), True)

    def test_is_within(self):
        for one, other in itertools.product(SETS, repeat=2):
            expected = all(chain in other for chain in CHAINS if chain in one)
            self.assertIs(one.is_within(other), expected)
            self.assertIs(one.is_within(other=other), expected)
        self.assertIs(Names(("ann", "x", "x")).is_within(ENDLESS), True)
        self.assertIs((ENDLESS - Names(("ann",))).is_within(ENDLESS), True)
        self.assertIs(ENDLESS.is_within(ENDLESS - Names(("ann",) + ("x",) * 8)), False)
        self.assertIs(ENDLESS.is_within(FINITE | ENDLESS), True)

    def test_difference(self):
        self.assertIsNone(FINITE.difference(FINITE))
        self.assertIsNone(ENDLESS.difference(other=ENDLESS | ENDLESS))
        self.assertIsNone(NONE.difference(NONE))
        self.same(NONE.difference(FINITE), (1, ("ann",)))
        self.same(FINITE.difference(NONE), (0, ("ann",)))
        self.same(FINITE.difference(OTHER), (0, ("ann",)))
        self.same(OTHER.difference(FINITE), (1, ("ann",)))
        self.same(ENDLESS.difference(EVEN), (1, ("bob",)))
        self.same(FINITE.difference(ENDLESS), (1, ("ann", "x", "x")))
        self.same(ENDLESS.difference(ENDLESS - Names(("ann",) + ("x",) * 7)), (0, ("ann",) + ("x",) * 7))
        self.same(Names(("b",), ("a", "z")).difference(Names(("a", "y"))), (0, ("b",)))
        self.same(Names(("a", "z")).difference(Names(("a", "y"), ("b", "a"))), (1, ("a", "y")))

    def test_random_sets(self):
        sets = random_sets(22, 24)
        chains = oracles.in_order([row for many in range(1, 11) for row in itertools.product("ab", repeat=many)])
        inside = [{chain for chain in chains if chain in names} for names in sets]
        for (one, ones), (other, others) in itertools.product(list(zip(sets, inside)), repeat=2):
            # Sets of two tables of at most five states that are unlike differ in a chain of at most ten words.
            apart = oracles.in_order(ones ^ others)
            expected = (0 if apart[0] in ones else 1, apart[0]) if apart else None
            self.assertEqual(one.difference(other), expected)
            self.assertIs(one == other, not apart)
            self.assertIs(one.is_within(other), ones <= others)


class Numbers(SetsCase):
    def test_size(self):
        for names, size in ((NONE, 0), (FINITE, 3), (OTHER, 3), (ENDLESS, None), (EVEN, None)):
            found = names.size
            self.assertEqual(found, size)
            self.assertIs(type(found), type(size))
        chains = oracles.all_chains("abcde", "vwxyz", 5)
        self.same(Names(*chains).size, 5 + 25 + 125 + 625 + 3125)
        wide = tuple([(at > 0, tuple([(word, at + 1) for word in "abcdefghij"] if at < 59 else [])) for at in range(60)])
        self.same(Names.of_table(wide).size, sum([10 ** many for many in range(1, 60)]))

    def test_count(self):
        for names in SETS:
            for many in range(5):
                expected = len([chain for chain in CHAINS if chain in names and len(chain) == many + 1])
                self.same(names.count(many), expected)
                self.same(names.count(number=many), expected)
        self.same([ENDLESS.count(many) for many in (0, 1, 299, 300)], [1, 1, 1, 1])
        self.same([EVEN.count(many) for many in (0, 1, 2, 299, 300)], [2, 0, 8, 0, 2 * 2 ** 300])
        self.same([FINITE.count(many) for many in (0, 1, 2, 3, 300)], [1, 1, 1, 0, 0])
        self.same([NONE.count(0), NONE.count(300)], [0, 0])

    def test_wrong_counts(self):
        values = [-1, 301, -300, LIMIT, True, False, *[value for value in samples.ANY_VALUES if value != 0 and value != 1]]
        for names, value in itertools.product(SETS, values):
            with self.subTest(value=value):
                with self.assertRaises(InvalidCount) as caught:
                    names.count(value)
                self.assertIs(type(caught.exception), InvalidCount)
                self.assertIs(caught.exception.value, value)

    def test_the_properties_of_infinite_sets(self):
        self.same((EVEN.least, EVEN.persons, EVEN.names), (("ann",), ("ann", "bob"), ("x", "y")))
        self.same((ENDLESS.least, ENDLESS.persons, ENDLESS.names), (("ann",), ("ann",), ("x",)))
        self.same((EVEN - ENDLESS).least, ("bob",))
        self.same((EVEN - ENDLESS - Names(("bob",))).least, ("ann", "x", "y"))


class Order(SetsCase):
    def test_finite_sets(self):
        self.same(list(NONE.ordered()), [])
        self.same(list(FINITE.ordered()), [("ann",), ("ann", "x"), ("bob", "x", "y")])
        self.same(list(Names(("b",), ("a", "b"), ("ab",), ("a", "a", "a"), ("a", "ab")).ordered()),
                  [("ab",), ("b",), ("a", "ab"), ("a", "b"), ("a", "a", "a")])
        self.same(list(Names(*CHAINS).ordered()), CHAINS)

    def test_infinite_sets(self):
        self.same(list(itertools.islice(ENDLESS.ordered(), 50)), [("ann",) + ("x",) * many for many in range(50)])
        expected = [chain for chain in oracles.all_chains(("ann", "bob"), ("x", "y"), 7) if len(chain) % 2]
        self.same(list(itertools.islice(EVEN.ordered(), len(expected))), expected)
        gaps = Names.of_table(tables.ring(40, (3, 5)))
        self.same([len(chain) for chain in itertools.islice(gaps.ordered(), 6)], [4, 6, 44, 46, 84, 86])

    def test_left_early(self):
        for _ in range(3):
            found = []
            for chain in EVEN.ordered():
                found.append(chain)
                if len(found) == 4:
                    break
            self.same(found, [("ann",), ("bob",), ("ann", "x", "x"), ("ann", "x", "y")])
        steps = EVEN.ordered()
        self.assertIs(iter(steps), steps)
        self.same(next(steps), ("ann",))
        self.same(next(EVEN.ordered()), ("ann",))
        self.same(next(steps), ("bob",))

    def test_many_chains_of_one_length(self):
        wide = Names.of_table(tuple(
            [(at == 40, tuple([(word, at + 1) for word in "ba"] if at < 40 else [])) for at in range(41)]))
        first = list(itertools.islice(wide.ordered(), 3))
        self.same(first, [("a",) * 40, ("a",) * 39 + ("b",), ("a",) * 38 + ("b", "a")])
        self.same(wide.size, 2 ** 40)


class Headed(SetsCase):
    def test_headed(self):
        for names in SETS:
            for head in [*oracles.all_chains(("ann", "bob"), ("x", "y"), 4), ("zed",), ("ann", "zed")]:
                for found in (names.headed(head), names.headed(chain=head)):
                    self.check_least(found)
                    for chain in CHAINS:
                        self.assertIs(chain in found, chain in names and chain[:len(head)] == head)

    def test_tables(self):
        self.same(ENDLESS.headed(("ann",)).table, ENDLESS.table)
        self.same(ENDLESS.headed(("ann", "x", "x")).table, (
            (False, (("ann", 1),)), (False, (("x", 2),)), (False, (("x", 3),)), (True, (("x", 3),))))
        self.same(EVEN.headed(("bob", "y")).table, (
            (False, (("bob", 1),)), (False, (("y", 2),)), (False, (("x", 3), ("y", 3))), (True, (("x", 2), ("y", 2)))))
        self.same(FINITE.headed(("bob",)).table, Names(("bob", "x", "y")).table)
        self.same(FINITE.headed(("bob", "x", "y")).table, Names(("bob", "x", "y")).table)
        self.same(FINITE.headed(("bob", "x", "y", "y")).table, ((False, ()),))

    def test_eight_names(self):
        head = ("ann",) + ("x",) * 8
        self.same(ENDLESS.headed(head).least, head)
        self.same(EVEN.headed(head).count(10), 4)
        self.same(EVEN.headed(head).count(7), 0)
        self.assertIsNone(ENDLESS.headed(head).difference(
            ENDLESS - Names(*[("ann",) + ("x",) * many for many in range(8)])))

    def test_random_sets(self):
        chains = [row for many in range(1, 7) for row in itertools.product("ab", repeat=many)]
        for names in random_sets(23, 40):
            for head in chains[:14]:
                found = names.headed(head)
                for chain in chains:
                    self.assertIs(chain in found, chain in names and chain[:len(head)] == head)


class Loops(SetsCase):
    def check_loop(self, names):
        found = names.loop()
        if names.size is not None:
            self.assertIsNone(found)
            return
        self.assertIs(type(found), tuple)
        self.assertTrue(oracles.are_plain(found))
        front, ring, back = found
        for part in found:
            self.assertIs(type(part), tuple)
            self.assertTrue(all(oracles.is_word(word) for word in part))
        self.assertGreaterEqual(len(front), 1)
        self.assertGreaterEqual(len(ring), 1)
        for times in (0, 1, 2, 3, 10):
            self.assertIs(front + ring * times + back in names, True, found)

    def test_finite_sets(self):
        for names in (NONE, FINITE, OTHER, Names(*CHAINS), Names(("ann", "x", "x", "x"))):
            self.assertIsNone(names.loop())

    def test_infinite_sets(self):
        self.check_loop(ENDLESS)
        self.check_loop(EVEN)
        self.check_loop(ENDLESS | FINITE)
        self.check_loop(EVEN - ENDLESS)
        self.check_loop(EVEN.headed(("bob", "x", "y", "x")))
        self.check_loop(Names.of_table(tables.ring(59, (17,))))
        # A long way to the ring, dead ends beside it, a long way back.
        self.check_loop(Names.of_table((
            (False, (("a", 1), ("p", 2))), (True, ()), (False, (("a", 1), ("b", 3))), (False, (("a", 4), ("c", 5))),
            (True, ()), (False, (("a", 3), ("b", 6))), (False, (("a", 7),)), (True, ()))))

    def test_equal_sets_have_equal_loops(self):
        for names in [ENDLESS, EVEN, *random_sets(25, 20)]:
            again = Names.of_table(names.table)
            self.assertEqual(again, names)
            self.assertEqual(again.loop(), names.loop())
            self.assertEqual(again.loop(), names.loop())

    def test_rings_through_state_0(self):
        self.check_loop(Names.of_table(((False, (("a", 0), ("b", 1))), (True, ()))))
        self.check_loop(Names.of_table(((False, (("a", 1),)), (True, (("a", 0),)))))
        self.check_loop(Names.of_table(((False, (("a", 1),)), (False, (("b", 2),)), (True, (("c", 0),)))))

    def test_random_sets(self):
        for names in random_sets(24, 200):
            chains = tables.chains_up_to(names.table, 9)
            # A set is infinite exactly if it has a chain of as many words as its table has states, or of more.
            is_endless = any(len(chain) >= len(names.table) for chain in chains)
            self.assertIs(names.size is None, is_endless)
            if not is_endless:
                self.assertEqual(names.size, len(chains))
            self.check_loop(names)
