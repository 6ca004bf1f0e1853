"""[32], [33], and [4] as far as it speaks of sets: chains that become and come of other ones; [2], [3] likewise."""

import itertools
import random

from namechains.books import Book
from namechains.languages import Names
from namechains.limits import LIMIT
from namechains.meaning import means
from namechains.rewriting import (
    backward, becomes, between, comes_of, forward, is_complete, meanings, names_of, settled)
from namechains.statements import Leave, Naming
from tests import oracles, tables
from tests.cases import PlainCase

EXAMPLE = Book(Naming("ann", "doctor", ("bob", "friend")), Naming("bob", "friend", ("bob", "friend", "friend")),
               Naming("bob", "friend", ("cy",))).on(0)

# All chains of person p with names a, and all of ann and bob with an even number of names x or y.
ENDLESS = Names.of_table(((False, (("p", 1),)), (True, (("a", 1),))))
EVEN = Names.of_table(((False, (("ann", 1), ("bob", 1))), (True, (("x", 2), ("y", 2))), (False, (("x", 1), ("y", 1)))))

PERSONS = ("ann", "bob", "cy")
SHORT = oracles.all_chains(PERSONS, ("x", "y"), 4)
SMALL_BOOKS = oracles.random_books(31, 40)


class Examples(PlainCase):
    def test_examples(self):
        found = meanings(EXAMPLE, ("ann", "doctor"))
        self.same(found.table, (
            (False, (("ann", 1), ("bob", 2), ("cy", 3))), (False, (("doctor", 4),)), (False, (("friend", 3),)),
            (True, (("friend", 3),)), (True, ())))
        self.same([found.size, found.count(0), found.count(1), found.count(300)], [None, 1, 3, 2])
        self.assertIs(("cy", "friend", "friend") in found, True)
        self.check_listed(names_of(EXAMPLE, "cy"), [("cy",), ("ann", "doctor"), ("bob", "friend")])
        self.same(settled(EXAMPLE, found).table, ((False, (("cy", 1),)), (True, (("friend", 1),))))
        self.same(found.difference(Names(("cy",))), (0, ("ann", "doctor")))

    def test_by_names(self):
        one = Names(("ann", "doctor"))
        found = meanings(day=EXAMPLE, chain=("ann", "doctor"))
        self.same(becomes(day=EXAMPLE, chain=("ann", "doctor")), [("bob", "friend")])
        self.assertIs(comes_of(day=EXAMPLE, one=("ann", "doctor"), other=("cy",)), True)
        self.assertEqual(forward(day=EXAMPLE, names=one), found)
        self.check_listed(backward(day=EXAMPLE, names=Names(("cy",))), [("cy",), ("ann", "doctor"), ("bob", "friend")])
        self.assertEqual(names_of(day=EXAMPLE, person="cy"), backward(EXAMPLE, Names(("cy",))))
        self.assertEqual(settled(day=EXAMPLE, names=found), found.headed(("cy",)))
        self.assertIs(is_complete(day=EXAMPLE, names=found), True)
        self.assertIs(is_complete(day=EXAMPLE, names=one), False)
        self.check_listed(between(day=EXAMPLE, one=("ann", "doctor"), other=("cy",)),
                          [("ann", "doctor"), ("bob", "friend"), ("cy",)])


class Becomes(PlainCase):
    def test_each_once_in_order(self):
        day = Book(
            Naming("ann", "x", ("bob", "y", "y")), Naming("ann", "x", ("cy",)), Naming("ann", "y", ("dan",)),
            Naming("ann", "x", ("ann", "x")), Naming("bob", "x", ("eve",)), Naming("ann", "x", ("bob", "y")),
            Naming("ann", "x", ("bob",)), Naming("ann", "x", ("cy",), (0, 9)), Leave("ann", ("fay",), (0, 1))).on(3)
        self.same(becomes(day, ("ann", "x")), [("bob",), ("cy",), ("ann", "x"), ("bob", "y"), ("bob", "y", "y")])
        self.same(becomes(day, ("ann", "x", "x", "z")), [
            ("bob", "x", "z"), ("cy", "x", "z"), ("ann", "x", "x", "z"), ("bob", "y", "x", "z"),
            ("bob", "y", "y", "x", "z")])
        self.same(becomes(day, ("ann", "y")), [("dan",)])

    def test_none(self):
        for chain in (("ann",), ("zed", "doctor"), ("ann", "friend"), ("cy", "friend"), ("bob",), ("friend", "friend")):
            self.same(becomes(EXAMPLE, chain), [])
        self.same(becomes(Book().on(0), ("ann", "x")), [])
        self.same(becomes(Book(Naming("ann", "x", ("bob",), (3, 9))).on(2), ("ann", "x")), [])

    def test_chains_of_eight_names(self):
        chain = ("bob",) + ("friend",) * 8
        self.same(becomes(EXAMPLE, chain), [("cy",) + ("friend",) * 7, ("bob",) + ("friend",) * 9])

    def test_one_way_by_two_namings(self):
        day = Book(Naming("ann", "x", ("bob", "y"), (0, 5)), Naming("ann", "x", ("bob", "y"), (3, 9))).on(4)
        self.same(becomes(day, ("ann", "x", "z")), [("bob", "y", "z")])

    def test_a_list_is_new_each_time(self):
        becomes(EXAMPLE, ("ann", "doctor")).append(("zed",))
        self.same(becomes(EXAMPLE, ("ann", "doctor")), [("bob", "friend")])

    def test_small_books(self):
        for book in SMALL_BOOKS:
            rules = oracles.rules_on(book, 0)
            for chain in SHORT:
                self.same(becomes(book.on(0), chain), oracles.in_order(oracles.become(rules, chain)))


class ComesOf(PlainCase):
    def test_itself(self):
        for day in (EXAMPLE, Book().on(LIMIT)):
            for chain in (("ann",), ("zed",), ("ann", "doctor"), ("zed", "x", "y"), ("ann",) + ("doctor",) * 8):
                self.assertIs(comes_of(day, chain, chain), True)

    def test_others(self):
        for other, does_come in (
            (("bob", "friend"), True), (("cy",), True), (("bob", "friend", "friend"), True), (("cy", "friend"), True),
            (("bob",), False), (("ann",), False), (("ann", "doctor", "friend"), False), (("cy", "doctor"), False),
            (("zed",), False), (("bob",) + ("friend",) * 8, True), (("cy",) + ("friend",) * 8, True),
        ):
            self.assertIs(comes_of(EXAMPLE, ("ann", "doctor"), other), does_come)
            self.assertIs(comes_of(EXAMPLE, other, ("ann", "doctor")), False)
        self.assertIs(comes_of(EXAMPLE, ("ann", "doctor", "zed"), ("cy", "zed")), True)
        self.assertIs(comes_of(EXAMPLE, ("ann", "doctor", "zed"), ("cy", "friend", "friend", "zed")), True)
        self.assertIs(comes_of(EXAMPLE, ("ann", "doctor", "zed"), ("cy",)), False)

    def test_only_namings_of_the_day(self):
        book = Book(Naming("ann", "x", ("bob",), (3, 9)), Naming("bob", "y", ("cy",), (9, LIMIT)))
        for number, does_come in ((2, False), (3, False), (9, True), (10, False)):
            self.assertIs(comes_of(book.on(number), ("ann", "x", "y"), ("cy",)), does_come)

    def test_meaning_is_coming_to_a_bare_chain(self):
        for book in SMALL_BOOKS:
            for chain, person in itertools.product(SHORT[::3], PERSONS):
                self.assertIs(comes_of(book.on(0), chain, (person,)), person in means(book.on(0), chain))


class Sets(PlainCase):
    def test_sets_without_chains(self):
        for day in (EXAMPLE, Book().on(0)):
            self.check_listed(forward(day, Names()), [])
            self.check_listed(backward(day, Names()), [])
            self.check_listed(settled(day, Names()), [])
            self.assertIs(is_complete(day, Names()), True)

    def test_a_day_without_namings(self):
        for book in (Book(), Book(Leave("ann", ("bob",), (0, 9))), Book(Naming("ann", "x", ("bob",), (3, 9)))):
            day = book.on(1)
            for names in (EVEN, ENDLESS, Names(("ann", "x"))):
                self.assertEqual(forward(day, names), names)
                self.assertEqual(backward(day, names), names)
                self.assertEqual(settled(day, names), names)
                self.assertIs(is_complete(day, names), True)
            self.check_listed(meanings(day, ("ann", "x")), [("ann", "x")])
            self.check_listed(names_of(day, "ann"), [("ann",)])
            self.check_listed(between(day, ("ann", "x"), ("ann", "x")), [("ann", "x")])
            self.check_listed(between(day, ("ann", "x"), ("bob",)), [])

    def test_words_that_are_not_in_the_book(self):
        self.check_listed(meanings(EXAMPLE, ("zed",)), [("zed",)])
        self.check_listed(meanings(EXAMPLE, ("zed", "doctor")), [("zed", "doctor")])
        self.check_listed(names_of(EXAMPLE, "zed"), [("zed",)])
        self.check_listed(between(EXAMPLE, ("zed", "x"), ("zed", "x")), [("zed", "x")])
        self.assertEqual(backward(EXAMPLE, Names(("cy", "zed"))),
                         Names(("cy", "zed"), ("bob", "friend", "zed"), ("ann", "doctor", "zed")))
        self.assertEqual(forward(EXAMPLE, Names(("zed",), ("zed", "x"))), Names(("zed",), ("zed", "x")))

    def test_chains_of_eight_names(self):
        day = Book(Naming("ann", "x", ("ann",)), Naming("ann", "x", ("bob", "y"))).on(0)
        chain = ("ann",) + ("x",) * 8
        kept = [("ann",) + ("x",) * many for many in range(9)]
        self.check_listed(meanings(day, chain), kept + [("bob", "y") + ("x",) * many for many in range(8)])
        self.check_listed(backward(day, Names(chain)) & Names(*kept), [chain])
        self.assertIs(names_of(day, "ann").size, None)
        self.check_listed(between(day, chain, ("ann", "x")), kept[1:])

    def test_circles(self):
        day = Book(Naming("ann", "x", ("bob", "y")), Naming("bob", "y", ("cy", "x")), Naming("cy", "x", ("ann", "x")),
                   Naming("dan", "z", ("dan", "z"))).on(0)
        circle = [("ann", "x"), ("bob", "y"), ("cy", "x")]
        for chain in circle:
            self.check_listed(meanings(day, chain), circle)
            self.check_listed(backward(day, Names(chain)), circle)
            self.assertIs(is_complete(day, Names(*circle)), True)
            self.assertIs(is_complete(day, Names(*circle) - Names(chain)), False)
            self.check_listed(settled(day, Names(*circle, ("ann", "y"))), [("ann", "y")])
        self.check_listed(meanings(day, ("dan", "z")), [("dan", "z")])
        self.check_listed(names_of(day, "ann"), [("ann",)])

    def test_chains_that_grow_without_end(self):
        day = Book(Naming("ann", "x", ("ann", "x", "y", "z"))).on(0)
        found = meanings(day, ("ann", "x"))
        self.same(found.table, (
            (False, (("ann", 1),)), (False, (("x", 2),)), (True, (("y", 3),)), (False, (("z", 2),))))
        self.same([found.count(many) for many in (0, 1, 2, 3, 299, 300)], [0, 1, 0, 1, 1, 0])
        self.same(backward(day, Names(("ann", "x", "y", "z"))).table,
                  Names(("ann", "x"), ("ann", "x", "y", "z")).table)
        self.assertEqual(between(day, ("ann", "x"), ("ann", "x", "y", "z", "y", "z")),
                         Names(("ann", "x"), ("ann", "x", "y", "z"), ("ann", "x", "y", "z", "y", "z")))

    def test_every_name_ends(self):
        day = Book(Naming("ann", "x", ("ann",)), Naming("ann", "y", ("ann",))).on(0)
        self.same(names_of(day, "ann").table, ((False, (("ann", 1),)), (True, (("x", 1), ("y", 1)))))
        self.check_listed(meanings(day, ("ann", "x", "y", "z")),
                          [("ann", "x", "y", "z"), ("ann", "y", "z"), ("ann", "z")])

    def test_infinite_sets(self):
        day = Book(Naming("p", "a", ("q",)), Naming("q", "a", ("r", "b", "c"))).on(0)
        self.same(forward(day, ENDLESS).table, (
            (False, (("p", 1), ("q", 1), ("r", 2))), (True, (("a", 1),)), (False, (("b", 3),)), (False, (("c", 1),))))
        self.assertIs(is_complete(day, ENDLESS), False)
        self.assertIs(is_complete(day, forward(day, ENDLESS)), True)
        self.assertEqual(settled(day, ENDLESS), Names(("p",)))
        behind = Names.of_table(((False, (("r", 1),)), (False, (("b", 2),)), (False, (("c", 3),)), (True, (("a", 3),))))
        self.assertEqual(settled(day, forward(day, ENDLESS)), behind | Names(("p",), ("q",)))
        self.assertEqual(backward(day, behind), behind | Names.of_table(
            ((False, (("p", 1), ("q", 2))), (False, (("a", 2),)), (False, (("a", 3),)), (True, (("a", 3),)))))

    def test_sets_that_meet_state_0_again(self):
        names = Names.of_table(((False, (("a", 1), ("b", 0))), (True, (("b", 0),))))
        day = Book(Naming("a", "b", ("b", "b", "a"))).on(0)
        chains = [row for many in range(1, 7) for row in itertools.product("ab", repeat=many)]
        found = forward(day, names)
        inside = settled(day, names)
        for chain in chains:
            is_made = chain[:3] == ("b", "b", "a") and ("a", "b", *chain[3:]) in names
            self.assertIs(chain in found, chain in names or is_made)
            self.assertIs(chain in inside, chain in names and chain[:2] != ("a", "b"))
            self.assertIs(chain in backward(day, names),
                          chain in names or (chain[:2] == ("a", "b") and ("b", "b", "a", *chain[2:]) in names))
        self.assertIs(is_complete(day, names), all(chain in names for chain in chains if chain in found))

    def test_the_sets_contain_what_they_are_made_of(self):
        for book, names in itertools.product(SMALL_BOOKS[:10], (EVEN, ENDLESS, Names(("ann", "x"), ("cy",)))):
            self.assertIs(names.is_within(forward(book.on(0), names)), True)
            self.assertIs(names.is_within(backward(book.on(0), names)), True)

    def test_least_tables(self):
        for book in SMALL_BOOKS[:20]:
            for names in (meanings(book.on(0), ("ann", "x", "y")), names_of(book.on(0), "bob"),
                          settled(book.on(0), EVEN), backward(book.on(0), Names(("cy", "x")))):
                if len(names.table) <= 6:
                    self.assertEqual(names.table, tables.least(names.table))


class StepByStep(PlainCase):
    """Each told set against what is found step by step, by way of chains of at most eleven words."""

    def test_forward(self):
        for book in SMALL_BOOKS:
            rules = oracles.rules_on(book, 0)
            for chains in ([("ann", "x")], [("bob", "y", "x")], [("ann", "y", "y"), ("cy", "x")], SHORT[20:24]):
                found = forward(book.on(0), Names(*chains))
                reached = oracles.arising(rules, chains, 11)
                short = [chain for chain in itertools.takewhile(lambda chain: len(chain) <= 4, found.ordered())]
                self.assertEqual(short, oracles.in_order([chain for chain in reached if len(chain) <= 4]))
                self.assertTrue(all(chain in found for chain in reached))
                if len(chains) == 1:
                    self.assertEqual(meanings(book.on(0), chains[0]), found)

    def test_backward_and_both_ways(self):
        source = random.Random(32)
        for book in SMALL_BOOKS:
            day = book.on(0)
            rules = oracles.rules_on(book, 0)
            reached = {chain: oracles.arising(rules, [chain], 9) for chain in SHORT}
            for person in PERSONS:
                found = names_of(day, person)
                self.assertEqual(found, backward(day, Names((person,))))
                for chain in SHORT:
                    self.assertIs(chain in found, (person,) in reached[chain])
            goals = source.sample(SHORT, 3)
            found = backward(day, Names(*goals))
            for chain in SHORT:
                self.assertIs(chain in found, any(goal in reached[chain] for goal in goals))
            for one, other in [(source.choice(SHORT), goal) for goal in goals] + [(goals[0], goals[0])]:
                self.assertIs(comes_of(day, one, other), other in reached[one])
                self.assertIs(other in meanings(day, one), other in reached[one])
                self.assertIs(one in backward(day, Names(other)), other in reached[one])
                found = between(day, one, other)
                for chain in SHORT:
                    self.assertIs(chain in found, chain in reached[one] and other in reached[chain])

    def test_settled_and_complete(self):
        source = random.Random(33)
        for book in SMALL_BOOKS:
            day = book.on(0)
            rules = oracles.rules_on(book, 0)
            chains = source.sample(SHORT, 12)
            names = Names(*chains)
            self.check_listed(settled(day, names), [chain for chain in chains if not oracles.become(rules, chain)])
            is_whole = all(oracles.become(rules, chain) <= set(chains) for chain in chains)
            self.assertIs(is_complete(day, names), is_whole)
            self.assertIs(is_complete(day, forward(day, names)), True)
            self.assertEqual(forward(day, forward(day, names)), forward(day, names))
            self.assertEqual(backward(day, backward(day, names)), backward(day, names))

    def test_great_sets_are_told_whole(self):
        letters = "abcdefghijk"
        # From the right: any seven names, then x, then any names: the table needs more than 2 ** 7 states.
        namings = [Naming(letters[at], "s", (letters[at + 1], "s", name)) for at in range(7) for name in "xy"]
        namings += [Naming("h", "s", ("i", "s", "x")), Naming("i", "s", ("i", "s", "x")), Naming("i", "s", ("i", "s", "y"))]
        found = meanings(Book(*namings).on(0), ("a", "s"))
        self.assertGreater(len(found.table), 2 ** 7)
        for row in itertools.product("xy", repeat=10):
            self.assertIs(("i", "s", *row) in found, row[2] == "x")
        self.same(found.count(300), 2 ** 298)
        self.assertIs(is_complete(Book(*namings).on(0), found), True)
        self.assertIsNone(found.size)
