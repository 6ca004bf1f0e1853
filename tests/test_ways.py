"""[50] to [53], [55], [56]: how long ways are, how many there are, what they need; [2] as far as it speaks of them."""

import itertools
import random

from namechains.books import Book
from namechains.errors import NotMeant
from namechains.limits import LIMIT
from namechains.statements import Leave, Naming
from namechains.ways import (
    ShortestWay, count_shortest, count_ways, longest, needed, needed_pairs, since, space, spared, steps)
from tests import oracles
from tests.cases import PlainCase
from tests.way_oracles import counts, rewritten, ways_listed

# The example behind [56].
BOOK = Book(Naming("ann", "all", ("ann", "half", "half")), Naming("ann", "half", ("ann", "one", "one")),
            Naming("ann", "one", ("ann",)), Naming("ann", "one", ("bob",)), Naming("bob", "one", ("ann",)))
ALL = ("ann", "all")
HALF = ("ann", "half")

DAYS = [None, (0, 4), (3, 9)]
BOOKS = oracles.random_books(61, 120, days=DAYS)
CHAINS = [("ann",), ("ann", "x"), ("bob", "x", "y"), ("cy", "y", "x", "x"), ("zed",), ("zed", "x"), ("ann", "nobody")]

LETTERS = "abcdefghijklmnopqrstuv"


def lines(many, times, *ends):
    """Each of so many names is some times the next one for ann; behind the last one stand the other namings."""
    row = [Naming("ann", LETTERS[at], ("ann",) + (LETTERS[at + 1],) * times) for at in range(many)]
    return Book(*row, *ends).on(0)


def is_meant(day, chain, person):
    return person in oracles.meant(oracles.rules_on(day.book, day.number), chain)


class WaysCase(PlainCase):
    def check_not_meant(self, person, action):
        with self.assertRaises(NotMeant) as caught:
            action()
        self.assertIs(type(caught.exception), NotMeant)
        self.same(caught.exception.word, person)

    def meant_questions(self, books=BOOKS, numbers=(3,)):
        for book, number, chain, person in itertools.product(books, numbers, CHAINS, ("ann", "bob", "zed")):
            if is_meant(book.on(number), chain, person):
                yield book.on(number), chain, person


class NotMeantPersons(WaysCase):
    def check_all(self, day, chain, person):
        for asked in (steps, count_shortest, longest, space, since, needed, needed_pairs, spared, ShortestWay):
            self.check_not_meant(person, lambda: asked(day, chain, person))
        self.check_not_meant(person, lambda: steps(day, chain, person, names=20))
        self.check_not_meant(person, lambda: count_ways(day, chain, person, 0))
        self.check_not_meant(person, lambda: count_ways(day, chain, person, 40))

    def test_persons_who_are_not_meant(self):
        for book in BOOKS[:40]:
            for chain, person in itertools.product(CHAINS, ("ann", "cy", "zed", "nowhere")):
                if not is_meant(book.on(3), chain, person):
                    self.check_all(book.on(3), chain, person)

    def test_persons_of_nowhere(self):
        self.check_all(BOOK.on(0), ALL, "zed")
        self.check_all(Book().on(LIMIT), ("zed", "x"), "zed")
        self.check_all(Book().on(LIMIT), ("zed",), "ann")

    def test_circles_that_mean_nobody(self):
        day = Book(Naming("ann", "x", ("ann", "x")), Naming("ann", "y", ("ann", "y", "y"))).on(0)
        self.check_all(day, ("ann", "x"), "ann")
        self.check_all(day, ("ann", "y"), "ann")


class Steps(WaysCase):
    def test_the_example(self):
        day = BOOK.on(0)
        self.same([steps(day, ALL, "ann"), steps(day, ALL, "bob")], [7, 7])
        self.same(steps(day=day, chain=HALF, person="ann", names=None), 3)

    def test_bare_chains(self):
        for day in (BOOK.on(0), Book().on(LIMIT)):
            for names in (None, 0, 1, 20):
                self.same(steps(day, ("ann",), "ann", names=names), 0)
                self.same(steps(day, ("zed",), "zed", names=names), 0)

    def test_against_listed_ways(self):
        for day, chain, person in self.meant_questions():
            listed = ways_listed(day, chain, person, 6)
            found = steps(day, chain, person)
            self.same(found, min(map(len, listed)) if listed else found)
            self.assertTrue(listed or found > 6)

    def test_with_few_names(self):
        for day, chain, person in self.meant_questions(BOOKS[:60]):
            for names in range(5):
                listed = ways_listed(day, chain, person, 5, names)
                if listed:
                    self.same(steps(day, chain, person, names=names), min(map(len, listed)))

    def test_not_meant_with_few_names(self):
        day = BOOK.on(0)
        for names in (0, 1, 2):
            self.check_not_meant("ann", lambda: steps(day, ALL, "ann", names=names))
        self.same([steps(day, ALL, "ann", names=names) for names in (3, 4, 20)], [7, 7, 7])
        self.check_not_meant("ann", lambda: steps(day, ("ann", "one"), "ann", names=0))
        self.same(steps(day, ("ann", "one"), "ann", names=1), 1)
        eight = ("ann",) + ("one",) * 8
        self.check_not_meant("ann", lambda: steps(day, eight, "ann", names=7))
        self.same(steps(day, eight, "ann", names=8), 8)
        self.same(steps(day, eight, "bob"), 8)

    def test_ways_around_by_short_chains(self):
        day = Book(Naming("ann", "x", ("ann", "y", "y", "y")), Naming("ann", "y", ("ann",)),
                   Naming("ann", "x", ("ann", "a")), Naming("ann", "a", ("ann", "b")), Naming("ann", "b", ("ann", "c")),
                   Naming("ann", "c", ("ann", "d")), Naming("ann", "d", ("ann",))).on(0)
        self.same([steps(day, ("ann", "x"), "ann", names=names) for names in (1, 2, 3, 20)], [5, 5, 4, 4])
        self.same([steps(day, ("ann", "x", "y"), "ann", names=names) for names in (2, 3, 4)], [6, 6, 5])
        self.same(space(day, ("ann", "x"), "ann"), 1)

    def test_ways_that_are_far_too_long_to_be_followed(self):
        day = lines(21, 4, Naming("ann", LETTERS[21], ("ann",)))
        length = sum(4 ** at for at in range(22))
        self.assertGreater(length, 10 ** 12)
        self.same(steps(day, ("ann", "a"), "ann"), length)
        self.same(steps(day, ("ann", "a", "a"), "ann"), 2 * length)
        self.same(longest(day, ("ann", "a"), "ann"), length)
        self.same(space(day, ("ann", "a"), "ann"), 3 * 21 + 1)
        self.check_not_meant("ann", lambda: steps(day, ("ann", "a"), "ann", names=20))
        self.same(steps(day, ("ann", LETTERS[15]), "ann", names=20), sum(4 ** at for at in range(7)))
        self.same(steps(day, ("ann", LETTERS[15]), "ann", names=19), sum(4 ** at for at in range(7)))
        self.check_not_meant("ann", lambda: steps(day, ("ann", LETTERS[15]), "ann", names=18))


class Numbers(WaysCase):
    def test_against_listed_ways(self):
        for day, chain, person in self.meant_questions():
            listed = ways_listed(day, chain, person, 5)
            for length in range(6):
                many = len([way for way in listed if len(way) == length])
                self.same(count_ways(day, chain, person, length), many)
            if listed:
                shortest = min(map(len, listed))
                self.same(count_shortest(day, chain, person), len([way for way in listed if len(way) == shortest]))

    def test_longer_ways(self):
        for day, chain, person in self.meant_questions(oracles.random_books(62, 25)):
            for length, many in enumerate(counts(day, chain, person, 12)):
                self.same(count_ways(day, chain, person, length), many)

    def test_bare_chains(self):
        for chain in (("ann",), ("zed",)):
            self.same([count_ways(BOOK.on(0), chain, chain[0], length) for length in (0, 1, 40)], [1, 0, 0])
            self.same(count_shortest(BOOK.on(0), chain, chain[0]), 1)

    def test_by_name(self):
        self.same(count_ways(day=BOOK.on(0), chain=ALL, person="ann", length=7), 4)
        self.same(count_shortest(day=BOOK.on(0), chain=ALL, person="ann"), 4)

    def test_the_example(self):
        self.same([count_ways(BOOK.on(0), ALL, "ann", length) for length in (0, 6, 7, 8, 40)], [0, 0, 4, 0, 0])

    def test_numbers_that_reach_ten_to_the_thirtieth(self):
        ends = [Naming("ann", LETTERS[2], ("ann",), (0, last)) for last in range(10)]
        for many, times in ((1, 10), (2, 100)):
            day = lines(many, 4, *[Naming("ann", LETTERS[many], ("ann",), (0, last)) for last in range(10)])
            self.same(count_shortest(day, ("ann", "a"), "ann"), 10 ** 4 if many == 1 else 10 ** 16)
        day = lines(2, 4, *ends)
        self.same(count_shortest(day, ("ann", "a", "b", "b", "b"), "ann"), 10 ** 28)
        self.same(count_shortest(day, ("ann", "a", "b", "b", "b", "c"), "ann"), 10 ** 29)
        self.same(count_shortest(day, ("ann", "a", "b", "b", "b", "c", "c"), "ann"), 10 ** 30)
        self.same(count_shortest(day, ("ann", "a", "b", "b", "b", "c", "c", "c"), "ann"), 10 ** 30)
        self.same(count_shortest(day, ("ann", "a", "a"), "ann"), 10 ** 30)
        nine = lines(2, 4, *ends[:9])
        self.same(count_shortest(nine, ("ann", "a", "b", "b", "b"), "ann"), 9 ** 28)
        self.same(count_ways(day, ("ann", "a"), "ann", 21), 10 ** 16)
        self.same([count_ways(day, ("ann", "b", "b", "b", "b", "b", "b", "b"), "ann", length) for length in (34, 35, 36)],
                  [0, 10 ** 28, 0])
        self.same(count_ways(day, ("ann",) + ("b",) * 8, "ann", 40), 10 ** 30)

    def test_parallel_namings(self):
        row = [Naming("ann", "x", ("ann", "x"), (0, last)) for last in range(22)]
        day = Book(*row, Naming("ann", "x", ("bob",)), Naming("ann", "x", ("bob",), (0, 1))).on(0)
        self.same([count_ways(day, ("ann", "x"), "bob", length) for length in (0, 1, 2, 10)], [0, 2, 44, 2 * 22 ** 9])
        self.same([count_ways(day, ("ann", "x"), "bob", length) for length in (22, 23, 24, 40)],
                  [2 * 22 ** 21, 2 * 22 ** 22, 10 ** 30, 10 ** 30])
        self.assertGreater(10 ** 30, 2 * 22 ** 22)
        self.assertGreater(2 * 22 ** 23, 10 ** 30)
        self.same(count_shortest(day, ("ann", "x"), "bob"), 2)

    def test_shorter_ways_through_other_persons(self):
        # By bob it takes three more rewritings, by cy one, in three ways; either of them may come first.
        for first, second in (("bob", "cy"), ("cy", "bob")):
            day = Book(Naming("ann", "x", (first,)), Naming("ann", "x", (second,)), Naming("bob", "y", ("bob", "z", "z")),
                       Naming("bob", "z", ("bob",)), Naming("bob", "z", ("dan",)),
                       *[Naming("cy", "y", ("dan",), (0, last)) for last in (1, 2, 3)]).on(0)
            self.same([steps(day, ("ann", "x", "y"), "dan"), count_shortest(day, ("ann", "x", "y"), "dan")], [2, 3])
            self.same([count_ways(day, ("ann", "x", "y"), "dan", length) for length in range(6)], [0, 0, 3, 0, 1, 0])
            self.same(longest(day, ("ann", "x", "y"), "dan"), 4)

    def test_equally_short_ways_through_other_persons(self):
        day = Book(Naming("ann", "x", ("bob",)), Naming("ann", "x", ("cy",)), Naming("ann", "x", ("bob",), (0, 1)),
                   Naming("bob", "y", ("dan",)), Naming("cy", "y", ("dan",)), Naming("cy", "y", ("dan",), (0, 1)),
                   Naming("eve", "u", ("ann", "x", "y"))).on(0)
        self.same([count_shortest(day, chain, "dan") for chain in (("ann", "x", "y"), ("eve", "u"))], [4, 4])
        self.same(count_ways(day, ("eve", "u"), "dan", 3), 4)

    def test_sums_that_reach_it(self):
        # Numbers just below the bound stay what they are.
        ends = [Naming("ann", "b", ("ann",), (0, last)) for last in range(10)]
        day = Book(*ends, Naming("ann", "a", ("ann", "b", "b", "b")), Naming("ann", "c", ("ann", "a", "a", "a", "a")),
                   Naming("ann", "d", ("ann", "c", "c", "a", "a")), Naming("ann", "d", ("ann", "c", "c", "a", "a"), (0, 9)))
        day = day.on(0)
        self.same(count_shortest(day, ("ann", "c", "c", "a"), "ann"), 10 ** 27)
        self.same(count_shortest(day, ("ann", "c", "c", "a", "b", "b"), "ann"), 10 ** 29)
        self.same(count_shortest(day, ("ann", "d"), "ann"), 10 ** 30)


class Longest(WaysCase):
    def test_the_example(self):
        self.same(longest(BOOK.on(0), ALL, "ann"), 7)
        self.same(longest(day=BOOK.on(0), chain=("ann",), person="ann"), 0)

    def test_circles_beside_the_way(self):
        day = Book(Naming("ann", "x", ("bob",)), Naming("ann", "x", ("cy", "x")), Naming("cy", "x", ("cy", "x")),
                   Naming("cy", "y", ("cy", "y")), Naming("cy", "y", ("bob",)), Naming("ann", "z", ("ann", "z", "x")),
                   Naming("ann", "z", ("bob",)), Naming("bob", "x", ("bob",))).on(0)
        self.same(longest(day, ("ann", "x"), "bob"), 1)
        self.assertIsNone(longest(day, ("cy", "y"), "bob"))
        self.assertIsNone(longest(day, ("ann", "z"), "bob"))
        self.same(longest(day, ("bob", "x", "x", "x"), "bob"), 3)

    def test_against_numbers_of_ways(self):
        source = random.Random(63)
        books = [oracles.random_book(source, 9, persons=("ann", "bob")) for _ in range(60)]
        found = {True: 0, False: 0}
        for day, chain, person in self.meant_questions(books, (0,)):
            expected = longest(day, chain, person)
            numbers = [count_ways(day, chain, person, length) for length in range(41)]
            if expected is None:
                self.assertTrue(any(numbers[15:]))
            elif expected <= 40:
                self.assertGreater(numbers[expected], 0)
                self.assertFalse(any(numbers[expected + 1:]))
            found[expected is None] += 1
        self.assertGreater(min(found.values()), 10)

    def test_the_longest_is_not_the_shortest(self):
        day = lines(3, 2, Naming("ann", "d", ("ann",)), Naming("ann", "a", ("ann",)), Naming("ann", "b", ("ann", "d")))
        self.same([steps(day, ("ann", "a"), "ann"), longest(day, ("ann", "a"), "ann")], [1, 15])


class Space(WaysCase):
    def test_the_example(self):
        self.same(space(BOOK.on(0), ALL, "ann"), 3)
        self.same(space(day=BOOK.on(0), chain=HALF, person="ann"), 2)

    def test_it_is_the_least_number_for_steps(self):
        for day, chain, person in self.meant_questions():
            found = space(day, chain, person)
            self.assertIs(type(found), int)
            self.assertGreaterEqual(found, len(chain) - 1)
            for names in range(found):
                self.check_not_meant(person, lambda: steps(day, chain, person, names=names))
            if found <= 20:
                self.assertGreaterEqual(steps(day, chain, person, names=found), steps(day, chain, person))

    def test_names_that_wait_behind_wide_ones(self):
        wide = [Naming("ann", "d", ("ann",)), Naming("ann", "c", ("ann", "d", "d", "d", "d"))]
        for chain, expected in ((("ann", "d", "c"), 4), (("ann", "c", "d"), 5), (("ann", "d", "d", "c"), 4),
                                (("ann", "c", "d", "d"), 6), (("ann", "d", "c", "d"), 5)):
            day = Book(Naming("ann", "a", chain), Naming("bob", "b", ("ann", "a", "a", "a")), *wide).on(0)
            self.same(space(day, chain, "ann"), expected)
            self.same(space(day, ("ann", "a"), "ann"), expected)
            self.same(space(day, ("ann", "a", "d"), "ann"), expected + 1)
            self.same(space(day, ("bob", "b"), "ann"), expected + 2)

    def test_denser_books(self):
        source = random.Random(67)
        for _ in range(40):
            day = oracles.random_book(source, 12, persons=("ann", "bob"), names=("x", "y", "z")).on(0)
            for chain, person in itertools.product((("ann", "x"), ("bob", "y", "z"), ("ann", "z", "z", "y")), ("ann", "bob")):
                if is_meant(day, chain, person):
                    found = space(day, chain, person)
                    self.check_not_meant(person, lambda: steps(day, chain, person, names=found - 1))
                    self.assertGreaterEqual(steps(day, chain, person, names=found), steps(day, chain, person))

    def test_chains_of_eight_names(self):
        day = BOOK.on(0)
        self.same(space(day, ("ann",) + ("one",) * 8, "bob"), 8)
        self.same(space(day, ("ann",) + ("half",) * 8, "bob"), 9)
        self.same(space(day, ("ann",), "ann"), 0)


class Since(WaysCase):
    def test_the_example(self):
        self.same(since(BOOK.on(0), ALL, "bob"), 4)
        self.same(since(day=BOOK.on(0), chain=ALL, person="ann"), 3)
        self.same([since(BOOK.on(0), ("ann",), "ann"), since(Book().on(0), ("zed",), "zed")], [0, 0])

    def test_against_books_with_fewer_statements(self):
        for day, chain, person in self.meant_questions():
            numbers = [number for number in range(len(day.book) + 1)
                       if is_meant(Book(*day.book.statements[:number]).on(day.number), chain, person)]
            self.same(since(day, chain, person), numbers[0])

    def test_leaves_and_other_days_count_as_statements(self):
        book = Book(Leave("ann", ("bob",), (0, 9)), Naming("ann", "x", ("bob",), (0, 4)), Leave("cy", ("bob",), (0, 9)),
                    Naming("ann", "x", ("bob",), (5, 9)), Naming("ann", "x", ("bob",)))
        self.same([since(book.on(number), ("ann", "x"), "bob") for number in (0, 5, 10, LIMIT)], [2, 4, 5, 5])


class Needed(WaysCase):
    def test_the_example(self):
        day = BOOK.on(0)
        self.same([needed(day, HALF, "ann"), needed_pairs(day, HALF, "ann")], [[1], [(2, 3), (2, 4)]])
        self.same(needed(day=day, chain=ALL, person="bob"), [0, 1, 2, 3])
        self.same(needed_pairs(day=day, chain=ALL, person="ann"), [(2, 3), (2, 4)])
        self.same(needed_pairs(day=day, chain=ALL, person="bob"), [])
        self.same(spared(day=day, chain=HALF, person="ann"), [0])
        self.same(spared(day, ("ann",), "ann"), [0, 1, 2, 3, 4])

    def test_against_books_without_the_statements(self):
        source = random.Random(64)
        books = [*BOOKS, *[oracles.random_book(source, 14, days=DAYS) for _ in range(12)]]
        for day, chain, person in self.meant_questions(books):
            def still(*indexes):
                return is_meant(day.book.without(*indexes).on(day.number), chain, person)
            alone = [index for index in day.namings if not still(index)]
            pairs = [pair for pair in itertools.combinations(day.namings, 2)
                     if not set(pair) & set(alone) and not still(*pair)]
            self.same(needed(day, chain, person), alone)
            self.same(needed_pairs(day, chain, person), pairs)

    def test_spared_namings_are_on_no_way(self):
        for day, chain, person in self.meant_questions(oracles.random_books(65, 80, days=DAYS)):
            found = spared(day, chain, person)
            self.assertTrue(oracles.are_plain(found))
            self.assertEqual(found, sorted(set(found)))
            self.assertLessEqual(set(found), set(day.namings))
            used = {index for way in ways_listed(day, chain, person, 6) for index in way}
            self.assertFalse(used & set(found))
            if longest(day, chain, person) is not None and longest(day, chain, person) <= 6:
                self.same(found, [index for index in day.namings if index not in used])

    def test_naming_on_long_ways_only(self):
        book = Book(Naming("ann", "x", ("ann", "x")), Naming("ann", "x", ("bob",)), Naming("ann", "y", ("ann", "x")),
                    Leave("ann", ("bob",), (0, 1)), Naming("bob", "x", ("bob",)), Naming("ann", "x", ("cy",)),
                    Naming("cy", "x", ("bob", "x"), (5, 9)))
        self.same(spared(book.on(0), ("ann", "x"), "bob"), [2, 4, 5])
        self.same(spared(book.on(5), ("ann", "x", "x"), "bob"), [2])
        self.same(needed(book.on(0), ("ann", "x"), "bob"), [1])

    def test_new_lists(self):
        day = BOOK.on(0)
        for asked in (needed, needed_pairs, spared):
            first = asked(day, HALF, "ann")
            first.append("more")
            self.assertNotIn("more", asked(day, HALF, "ann"))
        self.assertEqual(list(rewritten(day, ALL)), [(0, ("ann", "half", "half"))])
