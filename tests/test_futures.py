"""[40] to [45], and [4] as far as it speaks of futures; [2], [3] as far as they speak of these functions."""

import itertools
import random

from namechains.books import Book
from namechains.futures import (
    can_come, deciders, frontier, is_never_paper, keep_apart, must_close, never_paper, parted, sure, together)
from namechains.limits import LIMIT
from namechains.rewriting import meanings
from namechains.statements import Leave, Naming
from tests import mangled, oracles, samples
from tests.cases import PlainCase

PERSONS = ("ann", "bob", "cy")
CHAINS = oracles.all_chains(PERSONS, ("x", "y"), 3)
SOME_CHAINS = [("ann", "x"), ("bob", "y"), ("ann", "x", "y"), ("cy", "x", "x"), ("zed", "x"), ("bob",)]
SMALL_BOOKS = oracles.random_books(41, 30)
CLOSED = [[], ["ann"], ["bob", "ann"], ["ann", "bob", "cy"], ["zed", "nobody"], ["cy", "zed"]]

# Ann calls by doctor whom the clinic calls staff; the clinic calls eve and whom bob calls friend so.
BOOK = Book(Leave("ann", ("bob",), (0, 9)), Naming("ann", "doctor", ("clinic", "staff")),
            Naming("clinic", "staff", ("eve",)), Naming("clinic", "staff", ("bob", "friend")),
            Naming("bob", "friend", ("cy",), (3, 9)))
DOCTOR = ("ann", "doctor")


def certain_rules(day, closed, kept):
    """The namings that every future has."""
    return [rule for rule in oracles.rules_on(day.book, day.number) if kept or rule[0] in closed]


def certain_day(day, closed, kept):
    """A day with just these namings."""
    rules = certain_rules(day, closed, kept)
    return Book(*[Naming(*rule) for at, rule in enumerate(rules) if rule not in rules[:at]]).on(0)


def is_open(chain, closed):
    return len(chain) > 1 and chain[0] not in closed


def frontier_by_steps(day, chain, closed, words=9):
    """The bare and open chains that arise by changes of chains that are neither, as [41] says it."""
    rules = certain_rules(day, closed, False)
    found, seen, left = set(), {chain}, [chain]
    while left:
        one = left.pop()
        if len(one) == 1 or is_open(one, closed):
            found.add(one)
            continue
        for other in oracles.become(rules, one):
            if len(other) <= words and other not in seen:
                seen.add(other)
                left.append(other)
    return found


def opens(table, pairs, closed, chain):
    """[44], word by word."""
    for at in range(1, len(chain)):
        for person in oracles.follow(table, chain[:at]):
            if person not in closed or (person, chain[at]) in pairs:
                return True
    return False


def is_right_never_paper(day, chain, person, closed, value, kept):
    if type(value) is not tuple or len(value) != 3 or value[0] != "never" or not oracles.are_rows(value[1]):
        return False
    pairs = value[2]
    if type(pairs) is not tuple or not all(type(pair) is tuple and len(pair) == 2 for pair in pairs):
        return False
    if not all(oracles.is_word(pair[0]) and oracles.is_word(pair[1]) for pair in pairs) or len(set(pairs)) < len(pairs):
        return False
    table = {row[:2]: set(row[2]) for row in value[1]}
    for stating, name, behind in certain_rules(day, closed, kept):
        if not oracles.follow(table, behind) <= table.get((stating, name), set()):
            return False
        if stating in closed and opens(table, pairs, closed, behind) and (stating, name) not in pairs:
            return False
    return not opens(table, pairs, closed, chain) and person not in oracles.follow(table, chain)


def some_futures(day, closed, kept, source, many):
    """Namings of some futures of the day: certain ones, and what open persons may state further."""
    certain = certain_rules(day, closed, kept)
    stating = [person for person in (*PERSONS, "zed", "new") if person not in closed]
    for _ in range(many):
        more = []
        for _ in range(source.randint(0, 5) if stating else 0):
            names = [source.choice("xy") for _ in range(source.choice((0, 0, 1, 2)))]
            more.append((source.choice(stating), source.choice("xy"), (source.choice((*PERSONS, "new")), *names)))
        yield certain + more


class FuturesCase(PlainCase):
    def rules_of(self, statements, closed):
        """The rules that statements tell, once it is checked that they may be told."""
        self.assertIs(type(statements), tuple)
        for one in statements:
            self.assertIsInstance(one, Naming)
            self.assertEqual(one.days, (0, LIMIT))
            self.assertNotIn(one.person, closed)
        return [(one.person, one.name, one.chain) for one in statements]

    def questions(self):
        """Days of small books with closed persons and kept True and False."""
        for at, book in enumerate(SMALL_BOOKS):
            for closed in (CLOSED[at % 6], CLOSED[(at + 2) % 6]):
                for kept in (True, False):
                    yield book.on(0), closed, kept


class Frontiers(FuturesCase):
    def test_bare_and_open_chains_alone(self):
        for closed in CLOSED:
            for kept in (True, False):
                self.check_listed(frontier(BOOK.on(5), ("ann",), closed, kept=kept), [("ann",)])
                self.check_listed(frontier(BOOK.on(5), ("nobody",), closed, kept=kept), [("nobody",)])
                self.check_listed(frontier(BOOK.on(5), ("eve", "x"), closed, kept=kept), [("eve", "x")])
        for closed in ([], ["bob"], ["clinic", "bob", "eve"], ["zed"]):
            self.check_listed(frontier(BOOK.on(5), DOCTOR, closed), [DOCTOR])

    def test_closed_persons_go_on(self):
        for kept in (True, False):
            for closed, expected in (
                (["ann"], [("clinic", "staff")]), (["clinic", "ann"], [("eve",), ("bob", "friend")]),
                (["clinic", "ann", "cy", "eve"], [("eve",), ("bob", "friend")]),
                (("bob", "clinic", "ann"), [("eve",), ("cy",)]), (["ann", "bob"], [("clinic", "staff")]),
            ):
                self.check_listed(frontier(BOOK.on(5), DOCTOR, closed, kept=kept), expected)
        self.check_listed(frontier(BOOK.on(2), DOCTOR, ["ann", "bob", "clinic"]), [("eve",)])
        self.check_listed(frontier(BOOK.on(2), ("bob", "friend"), ["bob"]), [])
        self.check_listed(frontier(BOOK.on(5), ("zed", "x"), ["zed"]), [])
        self.check_listed(frontier(day=BOOK.on(5), chain=DOCTOR, closed=["ann"], kept=True), [("clinic", "staff")])

    def test_circles_and_chains_without_end(self):
        day = Book(Naming("ann", "x", ("ann", "x", "y")), Naming("ann", "x", ("bob",)), Naming("ann", "x", ("ann", "x")),
                   Naming("bob", "y", ("bob", "z"))).on(0)
        found = frontier(day, ("ann", "x"), ["ann"])
        self.same(found.table, ((False, (("bob", 1),)), (True, (("y", 1),))))
        self.check_listed(frontier(day, ("ann", "x"), ["bob"]), [("ann", "x")])
        self.check_listed(frontier(day, ("ann", "x"), ["ann", "bob"]), [("bob",)])

    def test_small_books(self):
        for day, closed, kept in self.questions():
            for chain in SOME_CHAINS:
                found = frontier(day, chain, closed, kept=kept)
                reached = frontier_by_steps(day, chain, closed)
                short = list(itertools.takewhile(lambda one: len(one) <= 4, found.ordered()))
                self.assertEqual(short, oracles.in_order([one for one in reached if len(one) <= 4]))
                self.assertTrue(all(one in found for one in reached))


class Deciders(FuturesCase):
    def test_deciders(self):
        for closed, expected in (
            ([], ("ann", "bob", "clinic")), (["ann"], ("bob", "clinic")), (["clinic", "bob"], ("ann",)),
            (["bob", "ann", "clinic"], ()), (["eve", "zed"], ("ann", "bob", "clinic")),
        ):
            self.same(deciders(BOOK.on(5), DOCTOR, closed), expected)
            self.same(deciders(day=BOOK.on(5), chain=DOCTOR, closed=tuple(closed), kept=True), expected)
        for closed, expected in (
            ([], ("ann",)), (["ann"], ("clinic",)), (["clinic", "bob"], ("ann",)), (["clinic", "ann"], ("bob",)),
            (["bob", "ann", "clinic"], ()), (["bob", "ann"], ("clinic",)),
        ):
            self.same(deciders(BOOK.on(5), DOCTOR, closed, kept=False), expected)

    def test_chains_of_persons_that_occur_nowhere(self):
        for kept in (True, False):
            self.same(deciders(BOOK.on(5), ("zed", "x"), [], kept=kept), ("zed",))
            self.same(deciders(BOOK.on(5), ("zed", "x"), ["zed"], kept=kept), ())
            self.same(deciders(BOOK.on(5), ("zed",), [], kept=kept), ())
            self.same(deciders(BOOK.on(5), ("ann",), [], kept=kept), ())

    def test_small_books(self):
        for day, closed, kept in self.questions():
            for chain in SOME_CHAINS:
                reached = oracles.arising(certain_rules(day, closed, kept), [chain], 9)
                expected = sorted({one[0] for one in reached if is_open(one, closed)})
                self.same(deciders(day, chain, closed, kept=kept), tuple(expected))


class Parted(FuturesCase):
    def check(self, day, one, other, closed, kept, found):
        """What is told is right, whether None or not."""
        first = (frontier(day, one, closed, kept=kept) - meanings(certain_day(day, closed, kept), other)).least
        if first is None:
            self.assertIsNone(found)
            return
        self.assertIs(type(found), tuple)
        self.assertEqual(len(found), 2)
        self.same(found[0], first)
        rules = certain_rules(day, closed, kept) + self.rules_of(found[1], closed)
        more = set(oracles.meant(rules, one)) - set(oracles.meant(rules, other))
        self.assertTrue(more, (day.book.statements, one, other, closed, kept, found))

    def test_none(self):
        for closed in CLOSED:
            for chain in (DOCTOR, ("ann",), ("zed", "x", "y"), ("zed",)):
                for kept in (True, False):
                    self.assertIsNone(parted(BOOK.on(5), chain, chain, closed, kept=kept))
            self.assertIsNone(parted(BOOK.on(5), ("clinic", "staff"), DOCTOR, closed))
        self.assertIsNone(parted(BOOK.on(5), ("clinic", "staff"), DOCTOR, []))
        self.assertIsNone(parted(BOOK.on(5), ("bob", "friend"), DOCTOR, []))
        self.assertIsNone(parted(day=BOOK.on(5), one=("eve",), other=DOCTOR, closed=[], kept=True))
        self.assertIsNone(parted(BOOK.on(5), DOCTOR, ("clinic", "staff"), ("ann",)))
        self.assertIsNone(parted(BOOK.on(2), ("zed", "x"), ("ann",), ["zed"]))

    def test_not_kept(self):
        found = parted(BOOK.on(5), ("clinic", "staff"), DOCTOR, [], kept=False)
        self.assertEqual(found[0], ("clinic", "staff"))
        self.check(BOOK.on(5), ("clinic", "staff"), DOCTOR, [], False, found)
        self.assertIsNone(parted(BOOK.on(5), ("clinic", "staff"), DOCTOR, ["ann"], kept=False))
        self.same(parted(BOOK.on(5), ("eve",), DOCTOR, ["ann"], kept=False), (("eve",), ()))
        self.assertIsNone(parted(BOOK.on(5), ("eve",), DOCTOR, ["ann"]))

    def test_the_first_chain_is_told(self):
        found = parted(BOOK.on(5), DOCTOR, ("clinic", "staff"), [])
        self.assertEqual(found[0], DOCTOR)
        self.check(BOOK.on(5), DOCTOR, ("clinic", "staff"), [], True, found)
        self.same(parted(BOOK.on(5), DOCTOR, ("bob", "friend"), ["ann", "clinic"]), (("eve",), ()))
        self.assertEqual(parted(BOOK.on(5), DOCTOR, ("eve",), ["ann", "clinic"])[0], ("bob", "friend"))
        self.same(parted(BOOK.on(5), ("zed",), ("ann",), []), (("zed",), ()))
        day = Book(Naming("ann", "x", ("cy", "z", "a")), Naming("ann", "x", ("cy", "a", "z")), Naming("ann", "x", ("bob",)),
                   Naming("dan", "x", ("bob",))).on(0)
        self.assertEqual(parted(day, ("ann", "x"), ("dan", "x"), ["ann"])[0], ("cy", "a", "z"))

    def test_long_open_chains(self):
        names = tuple("abcdefgh")
        day = Book(Naming("ann", "x", ("bob", "x")), Naming("ann", "a", ("bob", "a"))).on(0)
        for one, other in ((("bob", *names), ("bob", *names[::-1])), (("bob",) + ("a",) * 8, ("bob",) + ("a",) * 7),
                           (("bob",) + ("a",) * 7, ("bob",) + ("a",) * 8), (("ann", *names), ("bob", *names))):
            self.check(day, one, other, [], True, parted(day, one, other, []))
            self.check(day, one, other, ["zed", "a", "b", "c"], False,
                       parted(day, one, other, ["zed", "a", "b", "c"], kept=False))

    def test_new_persons_are_not_closed(self):
        letters = list("abcdefghijklmnopqrstuvwxyz")
        found = parted(BOOK.on(5), ("zed", "x", "y"), ("ann",), letters)
        self.check(BOOK.on(5), ("zed", "x", "y"), ("ann",), letters, True, found)

    def test_small_books(self):
        source = random.Random(42)
        for day, closed, kept in self.questions():
            for one, other in itertools.product(SOME_CHAINS, SOME_CHAINS[:4] + [("ann",)]):
                found = parted(day, one, other, closed, kept=kept)
                self.check(day, one, other, closed, kept, found)
                if found is None:
                    for rules in some_futures(day, closed, kept, source, 4):
                        self.assertLessEqual(set(oracles.meant(rules, one)), set(oracles.meant(rules, other)))


class MustClose(FuturesCase):
    def test_must_close(self):
        self.same(must_close(BOOK.on(5), DOCTOR, DOCTOR), ())
        self.same(must_close(BOOK.on(5), DOCTOR, ("clinic", "staff")), ("ann",))
        self.same(must_close(day=BOOK.on(5), one=("clinic", "staff"), other=DOCTOR), ())
        self.assertIsNone(must_close(BOOK.on(5), DOCTOR, ("bob", "friend")))
        self.assertIsNone(must_close(BOOK.on(5), ("zed",), ("ann",)))
        self.same(must_close(BOOK.on(2), ("bob", "friend"), ("cy",)), ("bob",))
        self.same(must_close(BOOK.on(5), ("bob", "friend"), ("cy",)), ("bob",))
        self.same(must_close(BOOK.on(2), ("zed", "x", "y"), ("ann", "x")), ("zed",))
        day = Book(Naming("ann", "x", ("dan", "y")), Naming("dan", "y", ("bob", "z")), Naming("bob", "z", ("cy",))).on(0)
        self.same(must_close(day, ("ann", "x"), ("cy",)), ("ann", "bob", "dan"))
        self.same(must_close(day, ("ann", "x"), ("bob", "z")), ("ann", "dan"))

    def test_small_books(self):
        for book in SMALL_BOOKS:
            day = book.on(0)
            for one, other in itertools.product(SOME_CHAINS, SOME_CHAINS[:4] + [("ann",)]):
                found = must_close(day, one, other)
                rules = oracles.rules_on(book, 0)
                if not set(oracles.meant(rules, one)) <= set(oracles.meant(rules, other)):
                    self.assertIsNone(found)
                    continue
                self.same(found, tuple(sorted(set(found))))
                self.assertIsNone(parted(day, one, other, found))
                for person in found:
                    self.assertIsNotNone(parted(day, one, other, [name for name in found if name != person]))


class CanCome(FuturesCase):
    def check(self, day, chain, person, closed, kept):
        found = can_come(day, chain, person, closed, kept=kept)
        rules = certain_rules(day, closed, kept)
        if person in oracles.meant(rules, chain):
            self.same(found, ())
        elif not deciders(day, chain, closed, kept=kept):
            self.assertIsNone(found)
        else:
            more = self.rules_of(found, closed)
            self.assertTrue(more)
            self.assertIn(person, oracles.meant(rules + more, chain))
        return found

    def test_none_are_needed(self):
        self.same(can_come(BOOK.on(5), DOCTOR, "cy", []), ())
        self.same(can_come(BOOK.on(5), DOCTOR, "eve", ["ann", "clinic"], kept=False), ())
        self.same(can_come(day=BOOK.on(5), chain=("zed",), person="zed", closed=(), kept=True), ())

    def test_some_are_needed(self):
        for closed in ([], ["ann"], ["ann", "clinic"], ["eve", "dan"]):
            for person in ("dan", "zed", "ann", "eve", "cy"):
                for kept in (True, False):
                    for number in (2, 5):
                        self.assertIsNotNone(self.check(BOOK.on(number), DOCTOR, person, closed, kept))
        self.assertIsNotNone(self.check(BOOK.on(0), ("zed", "a", "b", "a", "c", "a"), "dan", ["dan", "a", "b"], True))
        self.assertIsNotNone(self.check(BOOK.on(0), ("zed",) + ("a",) * 8, "zed", ["dan"], True))

    def test_in_no_future(self):
        for closed in (["ann", "clinic", "bob"], ["bob", "ann", "clinic", "zed", "eve"]):
            for person in ("dan", "zed", "ann", "nobody"):
                for kept in (True, False):
                    self.assertIsNone(can_come(BOOK.on(5), DOCTOR, person, closed, kept=kept))
        self.assertIsNone(can_come(BOOK.on(2), DOCTOR, "cy", ["ann", "clinic", "bob"]))
        self.assertIsNone(can_come(BOOK.on(2), ("ann",), "bob", []))
        self.assertIsNone(can_come(BOOK.on(2), ("zed", "x"), "bob", ["zed"]))
        day = Book(Naming("ann", "x", ("ann", "x", "y")), Naming("ann", "x", ("bob", "x")), Naming("bob", "x", ("ann", "x")),
                   ).on(0)
        self.assertIsNone(can_come(day, ("ann", "x"), "cy", ["ann", "bob"]))
        self.assertIsNone(can_come(day, ("ann", "x", "y"), "ann", ["bob", "ann"], kept=False))

    def test_an_open_person_who_keeps_what_is_stated_may_lead_on(self):
        day = Book(Naming("ann", "x", ("bob", "x")), Naming("bob", "x", ("cy",)), Naming("cy", "y", ("dan",))).on(0)
        self.assertIsNotNone(self.check(day, ("ann", "x", "y"), "eve", ["ann", "cy"], False))
        self.assertIsNotNone(self.check(day, ("ann", "x", "y"), "eve", ["ann", "bob"], True))
        self.assertIsNotNone(self.check(day, ("ann", "x", "y"), "eve", ["ann", "bob"], False))
        self.assertIsNone(self.check(day, ("ann", "x", "y"), "eve", ["ann", "bob", "cy"], True))

    def test_small_books(self):
        source = random.Random(43)
        for day, closed, kept in self.questions():
            for chain in SOME_CHAINS:
                for person in ("ann", "cy", "new"):
                    if self.check(day, chain, person, closed, kept) is None:
                        for rules in some_futures(day, closed, kept, source, 4):
                            self.assertNotIn(person, oracles.meant(rules, chain))


class Sure(FuturesCase):
    def test_sure(self):
        self.same(sure(BOOK.on(5), DOCTOR, []), ())
        self.same(sure(BOOK.on(5), DOCTOR, ["ann"]), ())
        self.same(sure(BOOK.on(5), DOCTOR, ["clinic", "ann"]), ("eve",))
        self.same(sure(BOOK.on(5), DOCTOR, ["clinic", "bob", "ann"]), ("cy", "eve"))
        self.same(sure(BOOK.on(2), DOCTOR, ("clinic", "bob", "ann")), ("eve",))
        self.same(sure(day=BOOK.on(5), chain=("zed",), closed=[]), ("zed",))
        self.same(sure(BOOK.on(5), ("zed", "x"), ["zed"]), ())

    def test_small_books(self):
        for day, closed, _ in self.questions():
            for chain in CHAINS:
                self.same(sure(day, chain, closed), oracles.meant(certain_rules(day, closed, False), chain))


class NeverPapers(FuturesCase):
    # On day 2 bob states nothing.
    CLOSED = ["ann", "bob", "clinic"]
    ROWS = (("ann", "doctor", ("eve",)), ("clinic", "staff", ("eve",)))

    def check(self, value, is_right, chain=DOCTOR, person="cy", closed=None, number=2, kept=True, book=BOOK):
        closed = self.CLOSED if closed is None else closed
        self.assertIs(is_right_never_paper(book.on(number), chain, person, closed, value, kept), is_right)
        self.assertIs(is_never_paper(book.on(number), chain, person, closed, value, kept=kept), is_right)
        self.assertIs(is_never_paper(
            day=book.on(number), chain=chain, person=person, closed=tuple(closed), value=value, kept=kept), is_right)

    def test_right_ones(self):
        self.check(("never", self.ROWS, ()), True)
        self.check(("never", self.ROWS, (("zed", "x"), ("ann", "y"), ("eve", "x"))), True)
        self.check(("never", (("aa", "b", ("c", "d")), *self.ROWS, ("zed", "x", ("zed",))), ()), True)
        self.check(("never", ((*self.ROWS[0][:2], ("eve", "zed")), *self.ROWS[1:]), ()), True)
        self.check(("never", self.ROWS, ()), True, ("ann",), "cy", [])
        self.check(("never", (), ()), True, ("zed", "x"), "cy", ["zed"], 2, False)

    def test_wrong_rows(self):
        for rows in (self.ROWS[:1], self.ROWS[1:], (), self.ROWS[::-1], (*self.ROWS, self.ROWS[1]),
                     ((*self.ROWS[0][:2], ("cy", "eve")), self.ROWS[1]), (self.ROWS[0], ("clinic", "staff", ("zed",))),
                     (self.ROWS[0], ("clinic", "staff", ())), list(self.ROWS), (list(self.ROWS[0]), self.ROWS[1]),
                     (self.ROWS[0], ("clinic", "staff", ["eve"])), (self.ROWS[0], ("clinic", "staff", ("eve", "eve")))):
            self.check(("never", rows, ()), False)
        self.check(("never", self.ROWS, ()), False, number=5)
        self.check(("never", self.ROWS, ()), False, person="eve")
        rows = (("ann", "doctor", ("cy", "eve")), ("bob", "friend", ("cy",)), ("clinic", "staff", ("cy", "eve")))
        self.check(("never", rows, ()), True, number=5, person="zed")
        self.check(("never", rows, ()), False, number=5)

    def test_open_persons(self):
        for closed in ([], ["ann"], ["ann", "clinic"], ["ann", "bob"], ["clinic", "bob", "zed"]):
            self.check(("never", self.ROWS, ()), False, closed=closed)
            self.check(("never", self.ROWS, (("ann", "doctor"), ("clinic", "staff"))), False, closed=closed)
        # Eve is met, but no name stands behind her.
        self.check(("never", self.ROWS, ()), True, closed=self.CLOSED + ["cy"])
        self.check(("never", self.ROWS, ()), False, DOCTOR + ("x",))
        self.check(("never", self.ROWS, ()), True, DOCTOR + ("x",), closed=self.CLOSED + ["eve"])

    def test_pairs(self):
        book = Book(Naming("ann", "x", ("bob", "y")), Naming("bob", "y", ("cy", "z")), Naming("dan", "x", ("eve",)))
        closed = ["ann", "bob", "dan"]
        right = ("never", (("dan", "x", ("eve",)),), (("ann", "x"), ("bob", "y")))
        for kept in (True, False):
            self.check(right, True, ("dan", "x"), "zed", closed, 0, kept, book)
            self.check((*right[:2], right[2][::-1]), True, ("dan", "x"), "zed", closed, 0, kept, book)
            self.check((*right[:2], (("zed", "zed"), *right[2])), True, ("dan", "x"), "zed", closed, 0, kept, book)
            self.check((*right[:2], right[2][1:]), False, ("dan", "x"), "zed", closed, 0, kept, book)
            self.check((*right[:2], right[2][:1]), False, ("dan", "x"), "zed", closed, 0, kept, book)
            self.check((*right[:2], (("dan", "x"), *right[2])), False, ("dan", "x"), "zed", closed, 0, kept, book)
            self.check((*right[:2], right[2] * 2), False, ("dan", "x"), "zed", closed, 0, kept, book)
            self.check((*right[:2], list(right[2])), False, ("dan", "x"), "zed", closed, 0, kept, book)
            self.check((*right[:2], (["ann", "x"], ("bob", "y"))), False, ("dan", "x"), "zed", closed, 0, kept, book)
            self.check((*right[:2], (*right[2], ("dan", "X"))), False, ("dan", "x"), "zed", closed, 0, kept, book)
            self.check((*right[:2], (*right[2], ("dan", "y", "y"))), False, ("dan", "x"), "zed", closed, 0, kept, book)
            self.check((*right[:2], (*right[2], None)), False, ("dan", "x"), "zed", closed, 0, kept, book)
            self.check((*right[:2], (*right[2], "dd")), False, ("dan", "x"), "zed", closed, 0, kept, book)
            for pair in (("Dan", "y"), (None, "y"), ("", "y"), (1, "y"), ("dan", ""), ("dan", "y\n"), ("dan", 1), ("d",),
                         ("dan", ("y",)), (("dan", "y"),), ()):
                self.check((*right[:2], (pair, *right[2])), False, ("dan", "x"), "zed", closed, 0, kept, book)
            self.check((*right[:2], (("dan", "y"), *right[2])), True, ("dan", "x"), "zed", closed, 0, kept, book)
            self.check(right, False, ("ann", "x"), "zed", closed, 0, kept, book)
            self.check(right, False, ("dan", "x"), "eve", closed, 0, kept, book)

    def test_certain_namings_alone_count(self):
        book = Book(Naming("ann", "x", ("bob",)), Naming("dan", "x", ("cy",)))
        self.check(("never", (("ann", "x", ("bob",)),), ()), True, ("ann", "x"), "cy", ["ann"], 0, False, book)
        self.check(("never", (("ann", "x", ("bob",)),), ()), False, ("ann", "x"), "cy", ["ann"], 0, True, book)
        self.check(("never", (("ann", "x", ("bob",)), ("dan", "x", ("cy",))), ()), True, ("ann", "x"), "cy", ["ann"], 0,
                   True, book)

    def test_any_value(self):
        for value in [*samples.ANY_VALUES, "never", ("never",), ("never", self.ROWS), ("never", self.ROWS, (), ()),
                      ("no", self.ROWS), ("no", self.ROWS, ()), ["never", self.ROWS, ()], ("never", None, ()),
                      ("never", self.ROWS, None), ("never", self.ROWS, ""), ("never", self.ROWS, {}),
                      ("Never", self.ROWS, ()), (None, self.ROWS, ()), (["never"], self.ROWS, ())]:
            with self.subTest(value=value):
                self.check(value, False)

    def check_told(self, day, chain, person, closed, kept):
        found = never_paper(day, chain, person, closed, kept=kept)
        if can_come(day, chain, person, closed, kept=kept) is not None:
            self.assertIsNone(found)
        else:
            self.assertIs(type(found), tuple)
            self.assertTrue(oracles.are_plain(found))
            self.assertTrue(is_right_never_paper(day, chain, person, closed, found, kept))
            self.assertIs(is_never_paper(day, chain, person, closed, found, kept=kept), True)
        return found

    def test_never_paper(self):
        self.assertIsNotNone(self.check_told(BOOK.on(2), DOCTOR, "cy", self.CLOSED, True))
        self.assertIsNotNone(self.check_told(BOOK.on(5), DOCTOR, "zed", self.CLOSED, True))
        self.assertIsNone(self.check_told(BOOK.on(5), DOCTOR, "cy", self.CLOSED, True))
        self.assertIsNone(self.check_told(BOOK.on(2), DOCTOR, "cy", self.CLOSED[:2], True))
        self.assertIsNotNone(never_paper(day=BOOK.on(2), chain=DOCTOR, person="cy", closed=self.CLOSED, kept=False))
        self.assertIsNotNone(self.check_told(Book().on(0), ("zed",), "ann", [], True))
        self.assertIsNone(self.check_told(Book().on(0), ("zed",), "zed", ["zed"], False))

    def test_small_books(self):
        for day, closed, kept in self.questions():
            for chain in SOME_CHAINS:
                for person in ("ann", "cy", "new"):
                    self.check_told(day, chain, person, closed, kept)

    def test_papers_changed_in_one_place(self):
        chain, book = ("dan", "x"), Book(
            Naming("ann", "x", ("bob", "y")), Naming("bob", "y", ("cy", "z")), Naming("dan", "x", ("eve",)))
        closed = ["ann", "bob", "dan"]
        for kept in (True, False):
            value = self.check_told(book.on(0), chain, "zed", closed, kept)
            for other in mangled.variants(value):
                is_right = is_right_never_paper(book.on(0), chain, "zed", closed, other, kept)
                self.assertIs(is_never_paper(book.on(0), chain, "zed", closed, other, kept=kept), is_right)
        for day, closed, kept in list(self.questions())[::12]:
            for chain in SOME_CHAINS[:3]:
                value = never_paper(day, chain, "new", closed, kept=kept)
                for other in mangled.variants(value):
                    is_right = is_right_never_paper(day, chain, "new", closed, other, kept)
                    self.assertIs(is_never_paper(day, chain, "new", closed, other, kept=kept), is_right)


class Together(FuturesCase):
    def check(self, day, chains, closed, kept):
        found = together(day, chains, closed, kept=kept)
        rules = certain_rules(day, closed, kept)
        fixed = [set(oracles.meant(rules, chain)) for chain in chains if not deciders(day, chain, closed, kept=kept)]
        if fixed and not set.intersection(*fixed):
            self.assertIsNone(found)
            return found
        self.assertIs(type(found), tuple)
        person, statements = found
        self.assertIs(type(person), str)
        self.assertTrue(oracles.is_word(person))
        rules += self.rules_of(statements, closed)
        for chain in chains:
            self.assertIn(person, oracles.meant(rules, chain), (day.book.statements, chains, closed, kept, found))
        return found

    def test_one_to_four_chains(self):
        day = Book(Naming("ann", "x", ("bob",)), Naming("ann", "x", ("cy",)), Naming("dan", "x", ("cy",)),
                   Naming("eve", "x", ("bob",))).on(0)
        everybody = ["ann", "bob", "cy", "dan", "eve"]
        ann, dan, eve, zed = (("ann", "x"), ("dan", "x"), ("eve", "x"), ("zed", "x"))
        for kept in (True, False):
            self.same(together(day, [ann, dan], everybody, kept=kept), ("cy", ()))
            self.same(together(day=day, chains=(dan, ann, dan, ("cy",)), closed=tuple(everybody), kept=kept), ("cy", ()))
            self.assertIsNone(together(day, [dan, eve], everybody, kept=kept))
            self.assertIsNone(together(day, [ann, dan, eve], everybody, kept=kept))
            self.assertIsNone(together(day, [ann, ("ann",)], everybody, kept=kept))
            self.same(together(day, [("bob",), ("bob",)], [], kept=kept), ("bob", ()))
            self.assertIsNone(together(day, [("bob",), ("cy",)], [], kept=kept))
            self.assertIsNone(together(day, [("bob", "y")], everybody, kept=kept))
            self.assertIsNone(together(day, [zed, ("bob", "y")], everybody, kept=kept))
            for chains in ([zed], [zed, zed], [zed, ann, ann], [zed, ("zed", "y"), ("zed", "x", "y"), dan], [zed, ("fay",)]):
                self.assertIsNotNone(self.check(day, chains, everybody, kept))
                self.assertIsNotNone(self.check(day, chains, [], kept))
            self.assertIsNotNone(self.check(day, [dan, eve], everybody[:3], kept))
            self.assertIsNotNone(self.check(day, [dan, eve], everybody[:4], kept))

    def test_the_person_of_chains_that_do_not_open(self):
        day = Book(Naming("ann", "x", ("bob",)), Naming("ann", "x", ("cy",)), Naming("dan", "x", ("cy",)),
                   Naming("zed", "x", ("bob",))).on(0)
        found = self.check(day, [("zed", "x"), ("dan", "x"), ("ann", "x")], ["dan", "ann"], True)
        self.assertEqual(found[0], "cy")

    def test_small_books(self):
        source = random.Random(44)
        for day, closed, kept in self.questions():
            for many in (1, 2, 2, 3, 4):
                chains = [source.choice(SOME_CHAINS) for _ in range(many)]
                if self.check(day, chains, closed, kept) is None:
                    for rules in some_futures(day, closed, kept, source, 4):
                        self.assertFalse(set.intersection(*[set(oracles.meant(rules, chain)) for chain in chains]))


class KeepApart(FuturesCase):
    def by_hand(self, day, one, other):
        """All sets of persons, the fewest first."""
        persons = sorted({*day.book.persons, one[0], other[0]})
        for many in range(len(persons) + 1):
            for closed in itertools.combinations(persons, many):
                if together(day, [one, other], closed) is None:
                    return closed
        return None

    def test_keep_apart(self):
        self.assertIsNone(keep_apart(BOOK.on(5), DOCTOR, ("bob", "friend")))
        self.assertIsNone(keep_apart(BOOK.on(5), ("ann",), ("ann",)))
        self.same(keep_apart(BOOK.on(5), ("ann",), ("bob",)), ())
        self.same(keep_apart(BOOK.on(5), DOCTOR, ("zed",)), ("ann", "bob", "clinic"))
        self.same(keep_apart(BOOK.on(2), DOCTOR, ("bob", "friend")), ("bob",))
        self.same(keep_apart(BOOK.on(2), ("bob", "friend"), DOCTOR), ("bob",))
        self.same(keep_apart(BOOK.on(2), ("zed", "x"), DOCTOR), ("zed",))
        self.same(keep_apart(day=BOOK.on(2), one=("zed", "x"), other=("fay", "x")), ("fay",))
        self.same(keep_apart(BOOK.on(2), ("fay", "x"), ("zed", "x")), ("fay",))
        self.same(keep_apart(BOOK.on(5), DOCTOR, ("ann", "aunt")), ("ann",))

    def test_persons_who_matter_for_both(self):
        day = Book(Naming("ann", "x", ("bob",)), Naming("ann", "y", ("dan", "z")), Naming("dan", "z", ("cy",))).on(0)
        self.same(keep_apart(day, ("ann", "x"), ("ann", "y")), ("ann", "dan"))
        self.same(keep_apart(day, ("ann", "y"), ("ann", "x")), ("ann", "dan"))
        self.same(keep_apart(day, ("dan", "z"), ("ann", "x")), ("ann", "dan"))
        self.same(keep_apart(day, ("ann", "x"), ("dan",)), ("ann",))

    def test_a_chain_of_nobody_that_needs_more_persons(self):
        day = Book(Naming("ann", "x", ("bob", "x")), Naming("bob", "x", ("cy", "x")), Naming("dan", "y", ("eve",))).on(0)
        self.same(keep_apart(day, ("ann", "x"), ("dan", "y")), ("ann", "bob", "cy"))
        self.same(keep_apart(day, ("ann", "x"), ("eve",)), ("ann", "bob", "cy"))
        self.same(keep_apart(day, ("ann", "x"), ("dan", "z")), ("dan",))
        self.same(keep_apart(day, ("ann", "x"), ("bob", "x")), ("bob", "cy"))

    def test_small_books(self):
        for book in SMALL_BOOKS:
            day = book.on(0)
            rules = oracles.rules_on(book, 0)
            for one, other in itertools.product(SOME_CHAINS, repeat=2):
                found = keep_apart(day, one, other)
                if set(oracles.meant(rules, one)) & set(oracles.meant(rules, other)):
                    self.assertIsNone(found)
                else:
                    self.same(found, self.by_hand(day, one, other))


class ClosedPersons(FuturesCase):
    def test_a_passed_list_stays_as_it_is_and_may_be_a_tuple(self):
        day = BOOK.on(5)
        value = never_paper(day, DOCTOR, "zed", ["clinic", "bob", "ann"])
        for kept in (True, False):
            for closed in (["clinic", "ann"], ["clinic", "bob", "ann"], []):
                before = list(closed)
                answers = []
                for passed in (closed, tuple(closed)):
                    answers.append([
                        frontier(day, DOCTOR, passed, kept=kept), deciders(day, DOCTOR, passed, kept=kept),
                        parted(day, DOCTOR, ("eve",), passed, kept=kept),
                        can_come(day, DOCTOR, "zed", passed, kept=kept), sure(day, DOCTOR, passed),
                        is_never_paper(day, DOCTOR, "zed", passed, value, kept=kept),
                        never_paper(day, DOCTOR, "zed", passed, kept=kept),
                        together(day, [DOCTOR, ("zed", "x")], passed, kept=kept)])
                    self.assertEqual(closed, before)
                self.assertEqual(answers[0], answers[1])

    def test_kept_is_true_if_it_is_left_out(self):
        day, closed = BOOK.on(5), ["clinic"]
        value = never_paper(day, ("eve",), "zed", closed, kept=True)
        for function, arguments in (
            (frontier, (day, DOCTOR, closed)), (deciders, (day, DOCTOR, closed)),
            (parted, (day, ("clinic", "staff"), DOCTOR, closed)), (can_come, (day, DOCTOR, "eve", closed)),
            (is_never_paper, (day, ("eve",), "zed", closed, value)), (never_paper, (day, ("eve",), "zed", closed)),
            (together, (day, [DOCTOR, ("clinic", "staff")], closed)),
        ):
            self.assertEqual(function(*arguments), function(*arguments, kept=True))
            self.assertIsNone(function.__defaults__)
            with self.assertRaises(TypeError):
                function(*arguments, True)
        book = Book(Naming("ann", "x", ("bob",)), Naming("dan", "x", ("cy",)))
        value = ("never", (("ann", "x", ("bob",)),), ())
        self.assertIs(is_never_paper(book.on(0), ("ann", "x"), "cy", ["ann"], value), False)
        self.assertIs(is_never_paper(book.on(0), ("ann", "x"), "cy", ["ann"], value, kept=False), True)
        self.same(deciders(day, DOCTOR, closed), ("ann", "bob"))
        self.same(deciders(day, DOCTOR, closed, kept=False), ("ann",))
        self.assertIsNone(parted(day, ("clinic", "staff"), DOCTOR, closed))
        self.assertIsNotNone(parted(day, ("clinic", "staff"), DOCTOR, closed, kept=False))
        self.same(can_come(day, DOCTOR, "eve", closed), ())
        self.assertNotEqual(can_come(day, DOCTOR, "eve", closed, kept=False), ())

    def test_equal_questions_have_equal_answers(self):
        for day, closed, kept in list(self.questions())[::7]:
            again = Book(*day.book.statements).on(day.number)
            for one, other in itertools.combinations(SOME_CHAINS, 2):
                answers = [[
                    parted(asked, one, other, closed, kept=kept), can_come(asked, one, "new", closed, kept=kept),
                    never_paper(asked, one, "new", closed, kept=kept),
                    together(asked, [one, other], closed, kept=kept)] for asked in (day, day, again)]
                self.assertEqual(answers[0], answers[1])
                self.assertEqual(answers[0], answers[2])

    def test_lists_of_chains_stay_as_they_are(self):
        chains = [("zed", "x"), DOCTOR]
        together(BOOK.on(5), chains, ["ann"])
        self.assertEqual(chains, [("zed", "x"), DOCTOR])
