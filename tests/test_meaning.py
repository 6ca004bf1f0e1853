"""[20], [21]: whom chains mean, and the table of all pairs; [2], [3] as far as they speak of them."""

import itertools
import unittest

from namechains.books import Book
from namechains.limits import LIMIT
from namechains.meaning import means, table_of
from namechains.statements import Leave, Naming
from tests import oracles


class MeaningCase(unittest.TestCase):
    def check(self, day, chain, expected):
        for found in (means(day, chain), means(day=day, chain=chain)):
            self.assertEqual(found, expected)
            self.assertIs(type(found), tuple)
            self.assertTrue(oracles.are_plain(found))

    def check_table(self, day, expected):
        for found in (table_of(day), table_of(day=day)):
            self.assertIs(type(found), dict)
            # As lists, so that the order of the keys counts.
            self.assertEqual(list(found.items()), list(expected.items()))
            self.assertTrue(oracles.are_plain(found))


class Meaning(MeaningCase):
    def test_bare_chains_mean_their_persons(self):
        for book in (Book(), Book(Naming("ann", "x", ("bob",))), Book(Naming("ann", "ann", ("bob",)))):
            for person in ("ann", "bob", "zed", "x", "abcdefgh"):
                self.check(book.on(0), (person,), (person,))

    def test_words_that_nobody_has(self):
        day = Book(Naming("ann", "x", ("bob",))).on(0)
        for chain in (("ann", "y"), ("bob", "x"), ("zed", "x"), ("ann", "x", "x"), ("zed", "z", "z"), ("x", "ann")):
            self.check(day, chain, ())
        self.check(Book().on(5), ("ann", "x"), ())

    def test_one_to_eight_names(self):
        day = Book(Naming("ann", "x", ("ann", "y")), Naming("ann", "y", ("bob",)), Naming("bob", "x", ("ann",))).on(0)
        chain = ("ann",)
        for at in range(8):
            chain = (*chain, "x")
            self.check(day, chain, (("bob", "ann")[at & 1],))
            self.check(day, (*chain[:-1], "z"), ())

    def test_several_namings_of_one_person_and_name(self):
        day = Book(Naming("ann", "x", ("cy",)), Naming("ann", "x", ("bob",)), Naming("ann", "x", ("cy", "y")),
                   Naming("cy", "y", ("bob",)), Naming("cy", "y", ("dan",))).on(3)
        self.check(day, ("ann", "x"), ("bob", "cy", "dan"))
        self.check(day, ("ann", "x", "y"), ("bob", "dan"))

    def test_persons_are_ascending_without_duplicates(self):
        day = Book(*[Naming("m", "x", (word,)) for word in ("z", "a", "ab", "b", "zz", "aa")],
                   Naming("a", "y", ("b",)), Naming("z", "y", ("b",)), Naming("zz", "y", ("a",))).on(0)
        self.check(day, ("m", "x"), ("a", "aa", "ab", "b", "z", "zz"))
        self.check(day, ("m", "x", "y"), ("a", "b"))

    def test_circles_mean_nobody_by_themselves(self):
        day = Book(Naming("ann", "x", ("ann", "x"))).on(0)
        self.check(day, ("ann", "x"), ())
        day = Book(Naming("ann", "x", ("bob", "x")), Naming("bob", "x", ("ann", "x"))).on(0)
        self.check(day, ("ann", "x"), ())
        day = Book(Naming("ann", "x", ("ann", "x", "x"))).on(0)
        self.check(day, ("ann", "x"), ())

    def test_circles_with_a_way_out(self):
        day = Book(Naming("ann", "x", ("bob", "x")), Naming("bob", "x", ("cy", "x")), Naming("cy", "x", ("ann", "x")),
                   Naming("bob", "x", ("dan",))).on(0)
        for person in ("ann", "bob", "cy"):
            self.check(day, (person, "x"), ("dan",))
        day = Book(Naming("ann", "x", ("ann", "x", "x")), Naming("ann", "x", ("bob",)), Naming("bob", "x", ("cy",)),
                   Naming("cy", "x", ("ann",))).on(0)
        self.check(day, ("ann", "x"), ("ann", "bob", "cy"))

    def test_found_however_the_namings_are_ordered(self):
        namings = [Naming("a", "x", ("b", "x")), Naming("b", "x", ("c", "x", "y")), Naming("c", "x", ("d", "y")),
                   Naming("d", "y", ("e",)), Naming("e", "y", ("f",))]
        for order in itertools.permutations(namings):
            day = Book(*order).on(0)
            self.check(day, ("a", "x"), ("f",))

    def test_long_rows_of_namings(self):
        words = ["".join(pair) for pair in itertools.product("abcde", repeat=2)]
        namings = [Naming(words[at], "x", (words[at + 1], "x")) for at in range(23)]
        for order in (namings, namings[::-1]):
            day = Book(*order, Naming(words[23], "x", ("zed",))).on(0)
            self.check(day, (words[0], "x"), ("zed",))

    def test_only_namings_of_the_day_count(self):
        book = Book(Naming("ann", "x", ("bob",), (3, 9)), Naming("ann", "x", ("cy", "y")),
                    Naming("cy", "y", ("dan",), (5, LIMIT)), Leave("ann", ("eve",), (0, LIMIT)))
        for number, expected in (
            (0, ()), (2, ()), (3, ("bob",)), (4, ("bob",)), (5, ("bob", "dan")), (9, ("bob", "dan")), (10, ("dan",)),
            (LIMIT, ("dan",)),
        ):
            self.check(book.on(number), ("ann", "x"), expected)

    def test_one_word_as_person_and_name(self):
        day = Book(Naming("ann", "ann", ("bob",)), Naming("bob", "ann", ("ann", "ann"))).on(0)
        self.check(day, ("ann", "ann"), ("bob",))
        self.check(day, ("ann", "ann", "ann"), ("bob",))

    def test_as_the_document_says(self):
        for book in oracles.random_books(1, 150):
            day = book.on(0)
            rules = oracles.rules_on(book, 0)
            for chain in oracles.all_chains(("ann", "bob", "zed"), ("x", "y"), 4):
                self.assertEqual(means(day, chain), oracles.meant(rules, chain), (book.statements, chain))


class Tables(MeaningCase):
    def test_pairs_that_mean_somebody(self):
        day = Book(Naming("cy", "x", ("dan",)), Naming("ann", "y", ("cy", "x")), Naming("ann", "x", ("zed", "x")),
                   Naming("ann", "b", ("dan",)), Naming("ann", "b", ("bob",)), Naming("bob", "z", ("bob", "z"))).on(0)
        self.check_table(day, {("ann", "b"): ("bob", "dan"), ("ann", "y"): ("dan",), ("cy", "x"): ("dan",)})

    def test_nobody(self):
        self.check_table(Book().on(0), {})
        self.check_table(Book(Naming("ann", "x", ("ann", "x"))).on(0), {})
        self.check_table(Book(Naming("ann", "x", ("bob",), (3, 9))).on(2), {})
        self.check_table(Book(Leave("ann", ("bob",), (0, 9))).on(2), {})

    def test_keys_are_ascending(self):
        words = ("b", "ab", "aa", "a", "ba")
        namings = [Naming(person, name, ("z",)) for person, name in itertools.product(words, words[:4])]
        expected = {pair: ("z",) for pair in sorted((one.person, one.name) for one in namings)}
        self.check_table(Book(*namings).on(0), expected)
        self.check_table(Book(*namings[::-1]).on(LIMIT), expected)

    def test_as_the_document_says(self):
        days = [None, (0, 4), (3, 9), (5, 5)]
        for book in oracles.random_books(2, 150, days=days):
            for number in (0, 4, 5, 9):
                table = oracles.table_of_rules(oracles.rules_on(book, number))
                expected = {pair: tuple(sorted(table[pair])) for pair in table}
                self.check_table(book.on(number), expected)

    def test_a_table_is_new_each_time(self):
        day = Book(Naming("ann", "x", ("bob",))).on(0)
        found = table_of(day)
        found["ann", "x"] = ("zed",)
        found["bob", "x"] = ("zed",)
        self.check_table(day, {("ann", "x"): ("bob",)})
        self.assertEqual(means(day, ("ann", "x")), ("bob",))
        self.assertEqual(means(day, ("bob", "x")), ())
        found.clear()
        self.check_table(day, {("ann", "x"): ("bob",)})
