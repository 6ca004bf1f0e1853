"""[73] to [77]: what groups may do in some future, or in none; [2], [4] as far as they speak of it."""

import itertools
import random

from namechains.books import Book
from namechains.limits import LIMIT
from namechains.outlooks import always, ever, ever_area, is_never_right, keepers, never_right, openers
from namechains.rights import may
from namechains.statements import Leave, Naming
from tests import mangled, oracles, right_oracles, samples
from tests.cases import PlainCase
from tests.test_rights import BOOK, books, leave

GROUPS = (["cy"], ["dan", "cy"], ["zed", "dan"])
CLOSED = ([], ["ann"], ["bob", "ann"], ["ann", "bob", "cy"], ["zed", "dan", "ann", "cy", "bob"], ["zed", "dan"])

# Closed ann asks for two of three: whom cy calls x, dan's x, and bob, who passes nothing on; dan asks cy's x.
ASKING = Book(Leave("ann", (2, (("cy", "x"), ("dan", "x"), ("bob",))), (0, 9), None, 0), Naming("cy", "x", ("bob",)),
              Naming("dan", "x", ("cy", "x")), Leave("dan", ("cy", "x"), (0, 9)), Leave("bob", ("dan", "x"), (0, 4)),
              Naming("cy", "x", ("eve", "y"), (5, 9)))
EVERYBODY = ["ann", "bob", "cy", "dan", "eve"]


class OutlookCase(PlainCase):
    def check_never(self, book, number, owner, group, tag, closed, value):
        """Whether the value is a right never paper is told as the document's words say it; return it."""
        found = is_never_right(book.on(number), owner, group, tag, closed, value)
        self.assertIs(found, right_oracles.is_never(book, number, owner, group, tag, closed, value), value)
        return found


class Futures(OutlookCase):
    def check_ever(self, book, number, owner, group, tag, closed):
        expected = right_oracles.can_meet(book, number, owner, group, tag, closed)
        day = book.on(number)
        found = ever(day, owner, group, tag, closed)
        self.assertEqual(found, ever(day=day, owner=owner, group=tuple(group), tag=tag, closed=tuple(closed)))
        paper = never_right(day, owner, group, tag, closed)
        self.assertEqual(paper, never_right(day=day, owner=owner, group=tuple(group), tag=tag, closed=tuple(closed)))
        self.assertIs(found is None, not expected)
        self.assertIs(paper is None, expected)
        if expected:
            self.check_statements(book, number, owner, group, tag, closed, found)
        else:
            self.assertIs(type(paper), tuple)
            self.assertTrue(oracles.are_plain(paper))
            self.assertTrue(self.check_never(book, number, owner, group, tag, closed, paper))
            self.assertIs(is_never_right(
                day=day, owner=owner, group=group, tag=tag, closed=closed, value=paper), True)
        return expected

    def check_statements(self, book, number, owner, group, tag, closed, found):
        self.assertIs(type(found), tuple)
        for one in found:
            self.assertIn(type(one), (Naming, Leave))
            self.assertNotIn(one.person, closed)
            self.assertEqual(one.days, (0, LIMIT))
        self.assertEqual(len(set(one.text for one in found)), len(found))
        self.assertIs(may(book.with_more(*found).on(number), owner, group, tag), True)
        if right_oracles.may(book, number, owner, group, tag):
            self.assertEqual(found, ())

    def test_small_books(self):
        found = {True: 0, False: 0}
        for book in books(111, 70):
            for owner, group, closed in itertools.product(("ann", "zed"), GROUPS, CLOSED):
                found[self.check_ever(book, 3, owner, group, 4, closed)] += 1
        self.assertGreater(min(found.values()), 500)

    def test_books_of_chains_that_open(self):
        source = random.Random(112)
        for _ in range(40):
            book = right_oracles.random_book(source, 10, (None,), ("ann", "bob", "cy"), ("x",))
            for closed in (["ann"], ["ann", "bob"], ["ann", "cy"], ["bob", "cy", "ann"]):
                self.check_ever(book, 0, "ann", ["zed"], 4, closed)
                self.check_ever(book, 0, "ann", ["zed", "dan"], 4, closed)

    def test_the_example(self):
        self.assertIsNone(ever(BOOK.on(4), "ann", ["eve"], 12, ["ann", "bob"]))
        for number, tag, closed in itertools.product((0, 4, 7, LIMIT), (0, 12, 16, LIMIT), CLOSED):
            self.check_ever(BOOK, number, "ann", ["eve"], tag, closed)
        self.assertEqual(ever(BOOK.on(7), "ann", ["dan"], 16, ["ann", "bob", "cy", "dan"]), ())

    def test_the_book_by_hand(self):
        for number, tag, group in itertools.product((0, 5, LIMIT), (0, 4, 9, 10), (["eve"], ["fay", "eve"], ["bob"], ["zed"])):
            for size in range(6):
                for closed in itertools.combinations(EVERYBODY, size):
                    self.check_ever(ASKING, number, "ann", group, tag, list(closed))

    def test_open_owners(self):
        for owner in ("ann", "zed"):
            found = ever(Book().on(LIMIT), owner, ["bob"], LIMIT, ["cy"])
            self.check_statements(Book(), LIMIT, owner, ["bob"], LIMIT, ["cy"], found)
        self.assertEqual(ever(Book().on(0), "ann", ["ann"], 0, ["ann"]), ())
        self.assertIsNone(ever(Book().on(0), "ann", ["bob"], 0, ["ann"]))

    def test_chains_that_open_with_passes_0(self):
        # With passes 0 each chain needs one of the group: two chains that open need a group of two.
        book = Book(leave("ann", ("bob", "x"), ("cy", "x"), many=2, times=0))
        self.assertIsNone(ever(book.on(0), "ann", ["dan"], 0, ["ann"]))
        self.assertTrue(self.check_ever(book, 0, "ann", ["dan", "eve"], 0, ["ann"]))
        self.assertTrue(self.check_ever(book, 0, "ann", ["dan", "eve"], 0, ["ann", "dan"]))
        self.assertFalse(self.check_ever(book, 0, "ann", ["dan", "eve"], 0, ["ann", "cy"]))
        one = Book(leave("ann", ("bob", "x"), ("cy", "x"), many=2, times=1))
        self.assertTrue(self.check_ever(one, 0, "ann", ["dan"], 0, ["ann"]))
        self.assertFalse(self.check_ever(one, 0, "ann", ["dan"], 0, ["ann", "bob"]))

    def test_many_new_persons(self):
        chains = [("p" + letter, "x") for letter in "abcd"]
        book = Book(leave("ann", *chains, many=4), leave("bob", *chains, many=3))
        for owner in ("ann", "bob"):
            self.assertTrue(self.check_ever(book, 0, owner, ["zed"], 0, ["ann", "bob"]))
        self.assertFalse(self.check_ever(book, 0, "ann", ["zed"], 0, ["ann", "bob", "pa"]))
        self.assertTrue(self.check_ever(book, 0, "bob", ["zed"], 0, ["ann", "bob", "pa"]))


class NeverPapers(OutlookCase):
    ROWS = (("cy", "x", ("bob",)), ("dan", "x", ("bob",)))
    PAPER = ("never", ROWS, (), (("ann", None), ("bob", 0)), ((0, 0, (0,), ()),))

    def check_paper(self, expected, *, number=0, owner="ann", group=("fay",), tag=4, closed=EVERYBODY, **parts):
        names = ("kind", "rows", "opens", "pairs", "covers")
        value = tuple([parts.get(name, part) for name, part in zip(names, self.PAPER)])
        self.assertIs(self.check_never(ASKING, number, owner, list(group), tag, list(closed), value), expected)

    def test_right_by_hand(self):
        self.check_paper(True)
        self.check_paper(True, closed=["dan", "cy", "ann"])
        self.check_paper(True, closed=["dan", "cy", "ann", "fay"])
        self.check_paper(True, group=("fay", "zed", "eve"))
        self.check_paper(True, tag=9)
        self.check_paper(True, pairs=(("bob", 0), ("cy", 3), ("ann", None), ("ann", 0), ("zed", 0)))
        self.check_paper(True, opens=(("zed", "x"), ("fay", "fay")))
        self.check_paper(True, rows=(*self.ROWS, ("eve", "y", ("gus",))))

    def test_wrong_kinds_and_rows(self):
        for kind in ("no", "yes", "Never", "", None, 1, ("never",)):
            self.check_paper(False, kind=kind)
        for rows in ((), self.ROWS[:1], self.ROWS[1:], self.ROWS[::-1], list(self.ROWS),
                     (self.ROWS[0], ("dan", "x", ("cy",))), None, (*self.ROWS, self.ROWS[1])):
            self.check_paper(False, rows=rows)
        self.check_paper(False, number=5, closed=["ann", "cy", "dan"])
        self.check_paper(True, number=5)

    def test_wrong_opens(self):
        self.check_paper(False, opens=(("cy", "x"),))
        self.check_paper(False, opens=(("dan", "x"),), covers=((0, 0, (0,), ()),))
        self.check_paper(True, opens=(("dan", "x"),), covers=((0, 0, (1,), ()),))
        for opens in ([], None, (("zed", "x"), ("zed", "x")), ("zed",), (["zed", "x"],), (("zed",),), (("Zed", "x"),),
                      (("zed", 1),), (("zed", "x", "x"),), {}):
            self.check_paper(False, opens=opens)

    def test_open_chains(self):
        # Dan's chain opens if dan is open, and all that comes of cy's x if cy is.
        self.check_paper(False, closed=["cy", "ann"])
        self.check_paper(True, closed=["cy", "ann"], covers=((0, 0, (1,), ()),))
        self.check_paper(False, closed=["dan", "ann"])
        self.check_paper(False, closed=["dan", "ann"], opens=(("dan", "x"),))
        # But with passes 0 only fay could stand for them.
        fay = ((0, 0, (), ("fay",)),)
        self.check_paper(True, closed=["dan", "ann"], opens=(("dan", "x"),), covers=fay)
        self.check_paper(False, closed=["dan", "ann"], covers=fay)
        self.check_paper(False, closed=["dan", "ann"], opens=(("dan", "x"),), covers=fay, tag=10)
        self.check_paper(False, closed=["dan", "ann"], opens=(("dan", "x"),), covers=fay, group=("fay", "gus"))

    def test_the_group_among_the_persons(self):
        # Both chains open, but with passes 0 only one of the group stands for either.
        book = Book(leave("ann", ("bob", "x"), ("cy", "x"), many=2, times=0))

        def check(expected, group, passes, numbers, persons, closed=("ann",)):
            value = ("never", (), (), (("ann", None),), ((0, passes, numbers, persons),))
            self.assertIs(self.check_never(book, 0, "ann", group, 0, list(closed), value), expected)

        check(True, ["dan"], 0, (), ("dan",))
        check(False, ["dan"], 0, (), ())
        check(False, ["dan"], 0, (), ("eve",))
        check(False, ["dan", "eve"], 0, (), ("dan",))
        check(False, ["dan", "eve"], 0, (), ("dan", "eve"))
        check(False, ["dan"], 0, (0,), ())
        check(True, ["dan"], 0, (0,), (), ("ann", "cy"))
        check(False, ["dan"], 0, (0,), (), ("ann", "bob"))
        check(False, ["dan"], 1, (), ("dan",))
        check(False, ["dan"], None, (), ("dan",))
        check(False, ["dan"], False, (), ("dan",))
        bound = Book(leave("ann", ("bob", "x"), ("cy", "x"), many=2, times=1))
        for passes in (0, 1):
            value = ("never", (), (), (("ann", None),), ((0, passes, (), ("dan",)),))
            self.assertFalse(self.check_never(bound, 0, "ann", ["dan"], 0, ["ann"], value))

    def test_wrong_pairs(self):
        self.check_paper(False, closed=["dan", "cy"])
        self.check_paper(False, owner="zed", pairs=(("zed", None),), covers=())
        self.check_paper(True, owner="zed", pairs=(("zed", None),), covers=(), closed=["zed", *EVERYBODY])
        self.check_paper(False, closed=["dan", "cy", "ann"], pairs=(("ann", None), ("bob", 0), ("bob", 1)))
        self.check_paper(False, pairs=(("ann", None), ("bob", 0), ("eve", 1)), closed=EVERYBODY[:4])
        self.check_paper(True, pairs=(("ann", None), ("bob", 0), ("eve", 1)))
        for pairs in ((("ann", None),), (("bob", 0),), (("ann", None), ("bob", 1)), (("ann", None), ("bob", False)),
                      (("ann", None), ("bob", 0), ("fay", 0)), (("ann", None), ("bob", 0), ("dan", 2)), None, []):
            self.check_paper(False, pairs=pairs)
        self.check_paper(True, pairs=(("ann", None), ("bob", 0), ("dan", 1)), covers=((0, 0, (0,), ()),))

    def test_wrong_covers(self):
        for covers in ((), ((0, 0, (0, 1), ()),), ((0, 0, (), ()),), ((0, 0, (0,), ("bob",)),), ((0, None, (0,), ()),),
                       ((0, 0, (0,), ()), (0, 0, (1,), ())), ((3, 0, (), ()),), None, [], ((0, 0, (3,), ()),)):
            self.check_paper(False, covers=covers, pairs=(("ann", None), ("bob", 1)))
        self.check_paper(True, covers=((0, 0, (), ("bob",)),))
        self.check_paper(True, covers=((0, 0, (2,), ()),))

    def test_each_change_in_one_place(self):
        for book, number, group, closed in ((ASKING, 0, ["fay"], EVERYBODY), (ASKING, 0, ["fay"], ["ann", "cy"]),
                                            (ASKING, 5, ["fay"], ["ann", "cy", "dan", "bob", "eve"])):
            paper = never_right(book.on(number), "ann", group, 4, closed)
            found = {True: 0, False: 0}
            for value in mangled.variants(paper):
                found[self.check_never(book, number, "ann", group, 4, closed, value)] += 1
            self.assertGreater(found[False], 150)

    def test_the_paper_of_another_question(self):
        self.check_paper(False, tag=10, owner="dan")
        self.check_paper(False, group=("bob",))
        self.check_paper(False, group=("fay", "ann"))
        self.check_paper(False, owner="bob")
        self.check_paper(False, closed=[])

    def test_any_value(self):
        for value in samples.ANY_VALUES:
            for whole in (value, ("never", value, value, value, value), ("never", (), value, (("ann", None),), ()),
                          ("never", (), (), value, ()), ("never", (), (), (("ann", None),), value),
                          ("never", (), (), (("ann", value),), ()), ("never", (), (), (("ann", None),))):
                self.check_never(Book(), 0, "ann", ["bob"], 0, ["ann"], whole)
                self.check_never(ASKING, 0, "ann", ["fay"], 4, EVERYBODY, whole)


class Areas(OutlookCase):
    def test_the_example(self):
        self.same(ever_area(BOOK, "ann", ["eve"], ["ann", "bob"]).rows, (((5, 9), ((10, 20),)),))
        self.same(ever_area(book=BOOK, owner="ann", group=["eve"], closed=["ann"]).rows, (((0, 9), ((10, 20),)),))
        self.same(ever_area(BOOK, "ann", ["eve"], []).size, (LIMIT + 1) ** 2)
        self.same(ever_area(BOOK, "ann", ["eve"], ["ann", "bob", "cy"]).rows, ())

    def test_against_ever(self):
        numbers = (0, 2, 3, 4, 5, 9, 10, LIMIT)
        for book in books(113, 25):
            for closed in CLOSED:
                found = ever_area(book, "ann", ["dan", "cy"], closed)
                for number, tag in itertools.product(numbers, repeat=2):
                    self.assertIs((number, tag) in found, ever(book.on(number), "ann", ["dan", "cy"], tag, closed) is not None)

    def test_always_by_hand(self):
        book = Book(leave("ann", ("bob", "x")), Naming("bob", "x", ("cy",)), leave("cy", ("dan",)))
        for closed, group, expected in ((["ann", "bob"], ["cy"], True), (["ann"], ["cy"], False), (["bob", "cy"], ["cy"], False),
                                        (["ann", "bob"], ["dan"], False), (["cy", "bob", "ann"], ["dan"], True),
                                        (["cy", "ann"], ["dan"], False), ([], ["ann"], True)):
            self.assertIs(always(book.on(0), "ann", group, 0, closed), expected)

    def test_always_in_dense_books(self):
        source = random.Random(117)
        found = {True: 0, False: 0}
        for _ in range(60):
            book = right_oracles.random_book(source, 10, (None,), ("ann", "bob", "cy"), ("x",))
            for closed in (["ann"], ["ann", "cy"], ["bob", "ann"]):
                left = Book(*[one for one in book.statements if one.person in closed])
                expected = right_oracles.may(left, 0, "ann", ["cy"], 4)
                self.assertIs(always(book.on(0), "ann", ["cy"], 4, closed), expected)
                found[expected, right_oracles.may(book, 0, "ann", ["cy"], 4)] = True
        self.assertIn((False, True), found)

    def test_always(self):
        for book in books(114, 60):
            for closed, owner in itertools.product(CLOSED, ("ann", "bob")):
                left = Book(*[one for one in book.statements if one.person in closed])
                for group in (["dan"], ["cy", "dan"], [owner]):
                    self.assertIs(always(book.on(3), owner, group, 4, closed), right_oracles.may(left, 3, owner, group, 4))
        self.assertIs(always(day=BOOK.on(7), owner="ann", group=["dan"], tag=16, closed=["ann", "bob"]), True)
        self.assertIs(always(BOOK.on(7), "ann", ["dan"], 16, ["ann"]), False)


class LeastSets(OutlookCase):
    def test_the_example(self):
        self.same(openers(BOOK.on(7), "ann", ["eve"], 12, 2), [("ann",), ("bob",), ("cy",)])
        self.same(keepers(BOOK.on(7), "ann", ["eve"], 12, 3), [("ann", "bob", "cy")])
        self.same(openers(day=BOOK.on(4), owner="ann", group=("eve",), tag=12, most=1), [("ann",), ("bob",)])
        self.same(keepers(day=BOOK.on(4), owner="ann", group=("eve",), tag=12, most=2), [("ann", "bob")])
        self.same(keepers(BOOK.on(7), "ann", ["eve"], 12, 2), [])

    def test_against_all_sets(self):
        for book, most in itertools.product(books(115, 40), (1, 2, 3)):
            for owner, group in (("ann", ["cy"]), ("zed", ["dan", "cy"]), ("bob", ["zed"])):
                persons = {*book.persons, owner}

                def is_opener(some):
                    return right_oracles.can_meet(book, 3, owner, group, 4, [one for one in persons if one not in some])

                def is_keeper(some):
                    return not right_oracles.can_meet(book, 3, owner, group, 4, some)

                self.same(openers(book.on(3), owner, group, 4, most), right_oracles.least_of(persons, most, is_opener))
                self.same(keepers(book.on(3), owner, group, 4, most), right_oracles.least_of(persons, most, is_keeper))

    def test_chains_that_need_several_persons_to_open(self):
        source = random.Random(116)
        for _ in range(12):
            book = right_oracles.random_book(source, 12, (None,), ("ann", "bob", "cy", "dan", "eve"), ("x", "y"))
            persons = {*book.persons, "ann"}

            def is_opener(some):
                return right_oracles.can_meet(book, 0, "ann", ["zed"], 4, [one for one in persons if one not in some])

            def is_keeper(some):
                return not right_oracles.can_meet(book, 0, "ann", ["zed"], 4, some)

            self.same(openers(book.on(0), "ann", ["zed"], 4, 3), right_oracles.least_of(persons, 3, is_opener))
            self.same(keepers(book.on(0), "ann", ["zed"], 4, 3), right_oracles.least_of(persons, 3, is_keeper))

    def test_persons_on_the_ways_of_namings(self):
        # Whoever is met on the way can let the chain mean somebody else; dan's y comes back to cy's x.
        book = Book(leave("ann", ("cy", "x")), Naming("cy", "x", ("dan", "y")), Naming("dan", "y", ("eve",)),
                    Naming("dan", "y", ("cy", "x")), Naming("fay", "x", ("gus", "x")))
        self.same(openers(book.on(0), "ann", ["zed"], 0, 3), [("ann",), ("cy",), ("dan",), ("eve",)])
        self.same(keepers(book.on(0), "ann", ["zed"], 0, 3), [])
        both = Book(leave("ann", ("cy", "x"), ("fay", "x"), many=2), *book.statements[1:])
        self.same(openers(both.on(0), "ann", ["zed"], 0, 3), [("ann",), *itertools.product(("cy", "dan", "eve"), ("fay", "gus"))])

    def test_a_group_that_is_covered(self):
        # Bob stands for one of both chains; another one has to come, and with passes 0 it is one of the group.
        for times, expected in ((None, [("ann",), ("cy",)]), (1, [("ann",), ("cy",)]), (0, [("ann",)])):
            book = Book(leave("ann", ("bob",), ("cy", "x"), many=2, times=times), Naming("cy", "x", ("bob",)))
            self.same(openers(book.on(0), "ann", ["bob"], 0, 3), expected)

    def test_dense_books(self):
        source = random.Random(118)
        sizes = {}
        for at in range(50):
            names = ("x",) if at % 2 else ("x", "y")
            book = right_oracles.random_book(source, 12, (None,), ("ann", "bob", "cy", "dan", "eve"), names)
            persons = {*book.persons, "ann"}
            for group in (["bob"], ["zed"], ["cy", "dan"]):
                def is_opener(some):
                    return right_oracles.can_meet(book, 0, "ann", group, 4, [one for one in persons if one not in some])

                expected = right_oracles.least_of(persons, 2, is_opener)
                self.same(openers(book.on(0), "ann", group, 4, 2), expected)
                sizes[max([0, *map(len, expected)])] = True
        self.assertEqual(sorted(sizes), [0, 1, 2])

    def test_the_empty_set(self):
        self.same(openers(BOOK.on(7), "ann", ["dan"], 16, 1), [()])
        self.same(keepers(BOOK.on(7), "ann", ["dan"], 16, 3), [])
        self.same(openers(Book().on(0), "zed", ["ann"], 0, 3), [("zed",)])
        self.same(keepers(Book().on(0), "zed", ["ann"], 0, 1), [("zed",)])
        self.same(openers(Book().on(0), "zed", ["zed"], 0, 3), [()])
        self.same(keepers(Book().on(0), "zed", ["zed"], 0, 3), [])
        self.same(openers(Book(leave("ann", ("eve", "x"))).on(0), "ann", ["bob"], 0, 1), [("ann",), ("eve",)])

    def test_three_of_four(self):
        book = Book(leave("ann", ("b",), ("c",), ("d",), ("e",), many=3))
        self.same(openers(book.on(0), "ann", ["zed"], 0, 3), [("ann",), *itertools.combinations("bcde", 3)])
        self.same(keepers(book.on(0), "ann", ["zed"], 0, 3), [("ann", *pair) for pair in itertools.combinations("bcde", 2)])

    def test_new_lists(self):
        openers(BOOK.on(7), "ann", ["eve"], 12, 1).clear()
        self.same(openers(BOOK.on(7), "ann", ["eve"], 12, 1), [("ann",), ("bob",), ("cy",)])
