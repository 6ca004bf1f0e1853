"""[30], [31]: Names made of chains and of tables, what is in them, their properties; [2], [3] as far as they say so."""

import itertools
import random

from namechains.errors import InvalidChain, InvalidTable
from namechains.languages import Names
from namechains.limits import LIMIT
from tests import mangled, oracles, samples, tables
from tests.cases import PlainCase

EMPTY = ((False, ()),)

# A table of seven states whose set is {(p), (p, a), (p, a, a), ..}, in roundabout ways.
LONG = (
    (False, (("q", 4), ("p", 2), ("r", 6))),
    (True, (("a", 2),)),
    (True, (("b", 4), ("a", 3))),
    (True, (("a", 1), ("c", 5))),
    (False, (("a", 4),)),
    (False, ()),
    (False, (("x", 6), ("y", 4))),
)

WRONG_TABLES = [
    (), [], [(False, ())], ((True, ()),), ((True, (("p", 0),)),), ((False, ()), (True, ()), None), ((False,),),
    ((False, (), ()),), ((False, []),), ([False, ()],), ((0, ()),), ((None, ()),), (("", ()),), ((False, None),),
    ((False, "a"),), ((False, {}),), ((False, ("p", 0)),), ((False, (["p", 0],)),), ((False, (("p",),)),),
    ((False, (("p", 0, 0),)),), ((False, (("P", 0),)),), ((False, (("", 0),)),), ((False, ((1, 0),)),),
    ((False, ((None, 0),)),), ((False, (("abcdefghi", 0),)),), ((False, (("p", 1),)),), ((False, (("p", -1),)),),
    ((False, (("p", False),)),), ((False, (("p", True),)), (True, ())), ((False, (("p", None),)),),
    ((False, (("p", "0"),)),), ((False, (("p", LIMIT),)),), ((False, (("p", 0), ("p", 0))),),
    ((False, (("p", 1), ("q", 1), ("p", 0))), (True, ())), ((False, (("p", 1),)), (True, (("x", 1), ("x", 1)))),
    ((False, (("p", 1),)), (1, ())), ((False, (("p", 1),)), (True, (("x", 2),))), ((False, (("p", 1),)), True),
    ((False, (("p", 1),)), (True, ()), [True, ()]), ((False, ()),) * 61, ((False, ()),) * 200,
    (False, ()), ((((False, ()),),),),
]


class NamesCase(PlainCase):
    def check_chains(self, names, chains):
        """The set is finite and has these chains alone."""
        self.assertIsInstance(names, Names)
        expected = oracles.in_order(set(chains))
        self.same(list(names.ordered()), expected)
        self.same(names.size, len(expected))
        self.same(names.least, expected[0] if expected else None)
        self.same(names.persons, tuple(sorted({chain[0] for chain in expected})))
        self.same(names.names, tuple(sorted({name for chain in expected for name in chain[1:]})))
        self.assertIs(bool(names), bool(expected))
        self.assertIsNone(names.loop())
        for many in range(10):
            self.same(names.count(many), len([chain for chain in expected if len(chain) == many + 1]))
        for chain in expected:
            self.assertIs(chain in names, True)
            self.assertIs((*chain, "zz") in names, (*chain, "zz") in expected)
            self.assertIs(chain[:-1] in names, chain[:-1] in expected)


class OfChains(NamesCase):
    def test_none(self):
        self.check_chains(Names(), [])
        self.same(Names().table, EMPTY)

    def test_one(self):
        self.check_chains(Names(("ann",)), [("ann",)])
        self.same(Names(("ann",)).table, ((False, (("ann", 1),)), (True, ())))
        self.check_chains(Names(("ann", "x", "ann")), [("ann", "x", "ann")])
        self.same(Names(("ann", "x")).table, ((False, (("ann", 1),)), (False, (("x", 2),)), (True, ())))

    def test_several(self):
        chains = [("bob", "y"), ("ann", "x"), ("ann",), ("cy", "x", "y", "z"), ("ann", "y", "x")]
        self.check_chains(Names(*chains), chains)
        self.check_chains(Names(*chains[::-1]), chains)
        self.same(Names(("bob", "x"), ("ann", "x")).table,
                  ((False, (("ann", 1), ("bob", 1))), (False, (("x", 2),)), (True, ())))
        self.same(Names(("b", "y"), ("b", "x", "x"), ("a", "z")).table, (
            (False, (("a", 1), ("b", 2))), (False, (("z", 3),)), (False, (("x", 4), ("y", 3))), (True, ()),
            (False, (("x", 3),))))

    def test_equal_ones(self):
        self.check_chains(Names(("ann", "x"), ("ann", "x")), [("ann", "x")])
        self.check_chains(Names(("ann",), ("bob",), ("ann",)), [("ann",), ("bob",)])

    def test_beginnings_of_one_another(self):
        chains = [("ann",) + ("x",) * many for many in range(9)]
        self.check_chains(Names(*chains), chains)
        self.check_chains(Names(*chains[::2]), chains[::2])
        self.same(Names(("ann",), ("ann", "x")).table,
                  ((False, (("ann", 1),)), (True, (("x", 2),)), (True, ())))

    def test_words_that_are_persons_and_names(self):
        chains = [("x", "x"), ("x",), ("x", "x", "x"), ("ann", "x"), ("x", "ann")]
        self.check_chains(Names(*chains), chains)
        self.check_chains(Names(("x", "x")), [("x", "x")])

    def test_eight_names(self):
        chain = ("ann", "a", "b", "c", "d", "e", "f", "g", "h")
        self.check_chains(Names(chain), [chain])
        self.check_chains(Names(chain, chain[:8]), [chain, chain[:8]])

    def test_many(self):
        chains = oracles.all_chains(("ann", "bob", "cy"), ("x", "y"), 6)
        self.check_chains(Names(*chains), chains)
        self.assertEqual(len(Names(*chains).table), 7)
        self.check_chains(Names(*chains[5::3]), chains[5::3])

    def test_wrong_chains(self):
        values = [*samples.ANY_VALUES, *samples.WRONG_CHAINS, ("ann",) * 10, ("ann",) + ("x",) * 9]
        for value in [value for value in values if not (isinstance(value, tuple) and 0 < len(value) < 10
                                                        and all(oracles.is_word(word) for word in value))]:
            for chains in ((value,), (("ann",), value), (("ann",), ("bob", "x"), value, None, value)):
                with self.subTest(chains=chains):
                    with self.assertRaises(InvalidChain) as caught:
                        Names(*chains)
                    self.assertIs(type(caught.exception), InvalidChain)
                    self.assertIs(caught.exception.value, value)

    def test_more_names_than_in_statements(self):
        for many in range(9):
            chain = ("ann",) + ("x",) * many
            self.same(Names(chain).least, chain)


class In(NamesCase):
    def test_any_value(self):
        sets = [Names(), Names(("ann",)), Names(("ann", "x"), ("x", "ann")), Names.of_table(LONG)]
        values = [*samples.ANY_VALUES, *samples.WRONG_CHAINS, ["ann"], "ann", ("ann", ["x"]), ("ann", {}), (["ann"],),
                  ({},), (("ann",),), ("ann", ("x",)), ("ann", None), (None,), ("ann", 1), ("ann", True), ()]
        for names, value in itertools.product(sets, values):
            if value not in (("ann",), ("bob", "bob")):
                with self.subTest(value=value):
                    self.assertIs(value in names, False)
                    self.assertIs(value not in names, True)

    def test_chains(self):
        names = Names(("ann", "x"), ("x",), ("ann", "x", "y", "z"))
        for chain, is_in in ((("ann", "x"), True), (("x",), True), (("ann", "x", "y", "z"), True), (("ann",), False),
                             (("ann", "x", "y"), False), (("x", "x"), False), (("zed",), False), (("ann", "zed"), False),
                             (("ann", "x", "y", "z", "z"), False), (("ann",) + ("x",) * 40, False)):
            self.assertIs(chain in names, is_in)

    def test_chains_of_any_number_of_names(self):
        names = Names.of_table(tables.ring(3, (1,)))
        for many in range(500):
            self.assertIs(("p",) + ("a",) * many in names, many % 3 == 1)
        self.assertIs(("p",) + ("a",) * 40 + ("b",) in names, False)
        self.assertIs(["p", "a"] in names, False)


class OfTables(NamesCase):
    def check_table(self, table, expected):
        for names in (Names.of_table(table), Names.of_table(table=table)):
            self.assertIsInstance(names, Names)
            self.same(names.table, expected)

    def test_least_ones(self):
        for table in (EMPTY, ((False, (("p", 1),)), (True, ())), ((False, (("p", 1),)), (True, (("a", 1),))),
                      ((False, (("a", 1),)), (True, (("a", 0),))), ((False, (("a", 1), ("b", 0))), (True, (("b", 1),)))):
            self.check_table(table, table)

    def test_the_example(self):
        table = (
            (False, (("ann", 1), ("bob", 2), ("cy", 3))), (False, (("doctor", 4),)), (False, (("friend", 3),)),
            (True, (("friend", 3),)), (True, ()))
        self.check_table(table, table)

    def test_states_alike(self):
        self.check_table(
            ((False, (("p", 1), ("q", 2))), (True, ()), (True, ())), ((False, (("p", 1), ("q", 1))), (True, ())))
        self.check_table(
            ((False, (("p", 1),)), (True, (("a", 2),)), (True, (("a", 3),)), (True, (("a", 1),))),
            ((False, (("p", 1),)), (True, (("a", 1),))))
        self.check_table(
            ((False, (("p", 1),)), (False, (("a", 2),)), (True, (("a", 3),)), (False, (("a", 4),)), (True, (("a", 1),))),
            ((False, (("p", 1),)), (False, (("a", 2),)), (True, (("a", 1),))))

    def test_state_0_may_be_like_another_one(self):
        self.check_table(
            ((False, (("a", 1),)), (True, (("a", 2),)), (False, (("a", 3),)), (True, ())),
            ((False, (("a", 1),)), (True, (("a", 2),)), (False, (("a", 3),)), (True, ())))
        self.check_table(
            ((False, (("a", 1),)), (True, (("a", 2),)), (False, (("a", 1),))), ((False, (("a", 1),)), (True, (("a", 0),))))
        self.check_table(
            ((False, (("a", 2), ("b", 1))), (False, (("b", 0), ("a", 2))), (True, ())),
            ((False, (("a", 1), ("b", 0))), (True, ())))

    def test_states_that_are_not_reached(self):
        self.check_table(((False, ()), (True, (("a", 1),))), EMPTY)
        self.check_table(
            ((False, (("p", 2),)), (True, (("a", 2),)), (True, ()), (True, (("a", 1),))),
            ((False, (("p", 1),)), (True, ())))

    def test_states_from_which_nothing_is_reached(self):
        self.check_table(((False, (("p", 0), ("q", 1))), (False, (("a", 1), ("b", 0)))), EMPTY)
        self.check_table(
            ((False, (("p", 1), ("q", 2))), (True, (("a", 2), ("b", 3))), (False, (("a", 2),)), (False, ())),
            ((False, (("p", 1),)), (True, ())))
        self.check_table(LONG, ((False, (("p", 1),)), (True, (("a", 1),))))

    def test_moves_to_state_0(self):
        table = ((False, (("a", 1), ("b", 0))), (True, (("a", 0), ("c", 2))), (True, (("b", 0),)))
        self.check_table(table, table)
        names = Names.of_table(table)
        self.assertIs(("b", "b", "a", "c", "b", "a") in names, True)
        self.assertIs(("b", "b", "a", "a") in names, False)
        self.same(names.persons, ("a", "b"))
        self.same(names.names, ("a", "b", "c"))
        self.same(names.least, ("a",))

    def test_words_of_state_0_that_is_met_again(self):
        names = Names.of_table(((False, (("a", 1), ("d", 0))), (True, (("c", 1), ("e", 2))), (False, (("b", 0),))))
        self.same(names.persons, ("a", "d"))
        self.same(names.names, ("a", "b", "c", "d", "e"))
        names = Names.of_table(((False, (("a", 1), ("d", 0))), (True, ())))
        self.same(names.persons, ("a", "d"))
        self.same(names.names, ("a", "d"))

    def test_words_of_state_0_that_is_not_met_again(self):
        names = Names.of_table(((False, (("p", 1), ("q", 2))), (True, (("q", 2),)), (True, (("r", 1),))))
        self.same(names.persons, ("p", "q"))
        self.same(names.names, ("q", "r"))

    def test_moves_in_any_order(self):
        self.check_table(
            ((False, (("q", 1), ("p", 2))), (True, (("b", 2), ("a", 1))), (True, (("c", 1),))),
            ((False, (("p", 1), ("q", 2))), (True, (("c", 2),)), (True, (("a", 2), ("b", 1)))))

    def test_states_get_numbers_as_they_are_met(self):
        self.check_table(
            ((False, (("b", 1), ("a", 4))), (True, ()), (False, (("z", 1),)), (False, (("y", 2),)), (False, (("x", 3),))),
            ((False, (("a", 1), ("b", 2))), (False, (("x", 3),)), (True, ()), (False, (("y", 4),)), (False, (("z", 2),))))

    def test_one_state_and_sixty_states(self):
        self.check_table(EMPTY, EMPTY)
        self.check_table(((False, (("p", 0), ("q", 0))),), EMPTY)
        self.check_table(((False, ()),) * 60, EMPTY)
        table = tables.ring(59, (7, 58))
        self.assertEqual(len(table), 60)
        self.check_table(table, table)
        self.check_table(tables.ring(58, range(0, 58, 2)), tables.ring(2, (0,)))
        row = tuple([(at == 59, (("a", at + 1),) if at < 59 else ()) for at in range(60)])
        self.check_table(row, row)

    def test_wrong_tables(self):
        for value in [*samples.ANY_VALUES, *WRONG_TABLES]:
            with self.subTest(value=value):
                with self.assertRaises(InvalidTable) as caught:
                    Names.of_table(value)
                self.assertIs(type(caught.exception), InvalidTable)
                self.assertIs(caught.exception.value, value)

    def test_tables_changed_in_one_place(self):
        for table in (((False, (("q", 2), ("p", 1))), (True, (("a", 2),)), (False, (("b", 1), ("a", 0)))),
                      ((False, (("p", 1), ("q", 0))), (True, (("a", 0),)))):
            self.assertTrue(is_table(table))
            for value in mangled.variants(table):
                if is_table(value):
                    self.same(Names.of_table(value).table, tables.least(value))
                else:
                    with self.assertRaises(InvalidTable):
                        Names.of_table(value)

    def test_random_tables(self):
        source = random.Random(11)
        for _ in range(300):
            table = tables.random_table(source, source.randint(1, 5))
            expected = tables.least(table)
            self.check_table(table, expected)
            self.check_table(expected, expected)
            names = Names.of_table(table)
            chains = tables.chains_up_to(table, 6)
            self.same(list(itertools.takewhile(lambda chain: len(chain) <= 6, names.ordered())), chains)
            for many in range(6):
                self.same(names.count(many), len([chain for chain in chains if len(chain) == many + 1]))
            self.same(names.least, chains[0] if chains else None)
            self.same(names.persons, tuple(sorted({chain[0] for chain in chains})))
            self.assertIs(bool(names), bool(chains))


def is_table(value):
    """Whether the value is a table of at most sixty states, as [31] says it."""
    if type(value) is not tuple or not 1 <= len(value) <= 60:
        return False
    for state in value:
        if type(state) is not tuple or len(state) != 2 or type(state[0]) is not bool or type(state[1]) is not tuple:
            return False
        for move in state[1]:
            if type(move) is not tuple or len(move) != 2 or not oracles.is_word(move[0]):
                return False
            if type(move[1]) is not int or not 0 <= move[1] < len(value):
                return False
        if len({move[0] for move in state[1]}) != len(state[1]):
            return False
    return not value[0][0]
