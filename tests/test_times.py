"""[25] to [29]: for how long papers serve, and on which days persons are meant; [2] as far as it speaks of them."""

import itertools

from namechains.books import Book
from namechains.limits import LIMIT
from namechains.papers import is_paper, paper
from namechains.statements import Leave, Naming
from namechains.times import days_of, lasting, paper_for, relay, serves, timeline
from tests import mangled, oracles, samples
from tests.cases import PlainCase

BOOK = Book(Naming("ann", "doctor", ("bob",), (0, 9)), Naming("ann", "doctor", ("cy",), (5, 20)),
            Naming("bob", "child", ("dan",)), Naming("cy", "child", ("dan",)))
CHAIN = ("ann", "doctor", "child")
BY_BOB = ("yes", (("ann", "doctor", "bob", 0, ()), ("bob", "child", "dan", 2, ())), (0, 1))
BY_CY = ("yes", (("ann", "doctor", "cy", 1, ()), ("cy", "child", "dan", 3, ())), (0, 1))
CHILDREN = (("bob", "child", ("dan",)), ("cy", "child", ("dan",)))

# The days of the statements of small books: stretches that touch, overlap, are alike, begin at 0, end at LIMIT.
SOME_DAYS = [None, (0, 4), (3, 9), (5, 9), (10, 14), (7, 7), (9, LIMIT), (0, 0), (LIMIT, LIMIT)]
SMALL_BOOKS = (oracles.random_books(7, 30, days=SOME_DAYS)
               + oracles.random_books(8, 30, days=SOME_DAYS[1:], persons=("ann", "bob", "cy"), names=("x",)))
QUESTIONS = [(("ann", "x"), "bob"), (("bob", "x", "y"), "ann"), (("ann", "y"), "cy"), (("cy",), "cy"), (("cy",), "ann")]


def naming(person, days=None):
    """Ann calls this person by the name x."""
    return Naming("ann", "x", (person,), days)


def days_by_hand(book):
    """A day of each stretch on which the same statements hold: its first one and its last one."""
    firsts = {0}
    for one in book.statements:
        firsts |= {one.days[0], min(one.days[1] + 1, LIMIT)}
    firsts = sorted(firsts)
    return sorted({*firsts, *[first - 1 for first in firsts[1:]], LIMIT})


def persons_on(book, chain, number):
    return oracles.meant(oracles.rules_on(book, number), chain)


def is_served(book, chain, person, first, last):
    """[27], as its words in brackets say it."""
    all_of_it = [(one.person, one.name, one.chain) for one in book.statements if isinstance(one, Naming)
                 and one.days[0] <= first and last <= one.days[1]]
    any_of_it = [(one.person, one.name, one.chain) for one in book.statements if isinstance(one, Naming)
                 and one.days[0] <= last and first <= one.days[1]]
    if person in oracles.meant(all_of_it, chain):
        return "yes"
    return None if person in oracles.meant(any_of_it, chain) else "no"


class Examples(PlainCase):
    def test_examples(self):
        self.same(days_of(BOOK, CHAIN, "dan"), ((0, 20),))
        self.same(lasting(BOOK.on(7), CHAIN, "dan"), ((0, 9), (5, 20)))
        self.same(relay(BOOK.on(3), CHAIN, "dan"), ((3, 9), (10, 20)))
        self.assertIsNone(paper_for(BOOK, CHAIN, "dan", (0, 20)))
        self.assertIs(is_paper(BOOK.on(0), CHAIN, "dan", BY_BOB), True)
        self.assertIs(is_paper(BOOK.on(21), CHAIN, "dan", ("no", ())), False)
        self.assertIs(is_paper(BOOK.on(21), CHAIN, "dan", ("no", CHILDREN)), True)

    def test_by_names(self):
        day = BOOK.on(7)
        self.same(serves(day=day, chain=CHAIN, person="dan", value=BY_BOB), (0, 9))
        self.same(days_of(book=BOOK, chain=CHAIN, person="dan"), ((0, 20),))
        self.same(list(timeline(book=BOOK, chain=CHAIN)), [(0, 20, ("dan",)), (21, LIMIT, ())])
        found = paper_for(book=BOOK, chain=CHAIN, person="dan", stretch=(6, 20))
        self.assertTrue(oracles.is_yes_paper(BOOK, 20, CHAIN, "dan", found))
        self.same(lasting(day=day, chain=CHAIN, person="dan"), ((0, 9), (5, 20)))
        self.same(relay(day=day, chain=CHAIN, person="dan"), ((7, 20),))


class Serves(PlainCase):
    def check(self, number, chain, person, value, expected, book=BOOK):
        found = serves(book.on(number), chain, person, value)
        if expected is None:
            self.assertIsNone(found)
        else:
            self.same(found, expected)

    def test_yes_papers(self):
        for number in (0, 4, 5, 9):
            self.check(number, CHAIN, "dan", BY_BOB, (0, 9))
        for number in (5, 9, 10, 20):
            self.check(number, CHAIN, "dan", BY_CY, (5, 20))
        for number in (10, 21, LIMIT):
            self.check(number, CHAIN, "dan", BY_BOB, None)
        for number in (0, 4, 21, LIMIT):
            self.check(number, CHAIN, "dan", BY_CY, None)

    def test_lines_that_are_not_used_count(self):
        value = ("yes", BY_CY[1] + BY_BOB[1][:1], BY_CY[2])
        self.check(7, CHAIN, "dan", value, (5, 9))
        self.check(5, CHAIN, "dan", value, (5, 9))
        self.check(4, CHAIN, "dan", value, None)
        self.check(10, CHAIN, "dan", value, None)

    def test_up_to_0_and_up_to_the_limit(self):
        self.check(7, CHAIN[:1], "ann", ("yes", (), ()), (0, LIMIT))
        self.check(0, CHAIN[:1], "ann", ("yes", (), ()), (0, LIMIT))
        self.check(LIMIT, ("bob", "child"), "dan", ("yes", BY_BOB[1][1:], (0,)), (0, LIMIT))
        book = Book(naming("bob", (LIMIT, LIMIT)), naming("cy", (0, 0)))
        self.check(LIMIT, ("ann", "x"), "bob", ("yes", (("ann", "x", "bob", 0, ()),), (0,)), (LIMIT, LIMIT), book)
        self.check(0, ("ann", "x"), "cy", ("yes", (("ann", "x", "cy", 1, ()),), (0,)), (0, 0), book)
        self.check(1, ("ann", "x"), "dan", ("no", ()), (1, LIMIT - 1), book)
        self.check(1, ("ann", "x"), "bob", ("no", (("ann", "x", ("cy",)),)), (0, LIMIT - 1), book)
        self.check(1, ("ann", "x"), "cy", ("no", (("ann", "x", ("bob",)),)), (1, LIMIT), book)
        self.check(1, ("ann", "x"), "dan", ("no", (("ann", "x", ("bob", "cy")),)), (0, LIMIT), book)

    def test_no_papers(self):
        self.check(21, CHAIN, "dan", ("no", CHILDREN), (21, LIMIT))
        self.check(LIMIT, CHAIN, "dan", ("no", CHILDREN), (21, LIMIT))
        self.check(20, CHAIN, "dan", ("no", CHILDREN), None)
        self.check(21, CHAIN, "eve", ("no", (("ann", "doctor", ("cy",)), *CHILDREN)), (10, LIMIT))
        self.check(3, CHAIN, "eve", ("no", (("ann", "doctor", ("bob",)), *CHILDREN)), (0, 4))
        self.check(30, CHAIN, "eve", ("no", (("ann", "doctor", ("bob",)), *CHILDREN)), (21, LIMIT))
        self.check(3, CHAIN, "eve", ("no", (("ann", "doctor", ("bob", "cy")), *CHILDREN)), (0, LIMIT))

    def test_between_two_namings_that_break_it(self):
        book = Book(naming("bob", (0, 3)), naming("cy", (7, 9)), naming("dan", (12, 20)), naming("eve", (2, 4)))
        self.check(5, ("ann", "x"), "zed", ("no", ()), (5, 6), book)
        self.check(6, ("ann", "x"), "zed", ("no", ()), (5, 6), book)
        self.check(10, ("ann", "x"), "zed", ("no", ()), (10, 11), book)
        self.check(11, ("ann", "x"), "zed", ("no", (("ann", "x", ("cy",)),)), (5, 11), book)
        self.check(21, ("ann", "x"), "zed", ("no", ()), (21, LIMIT), book)

    def test_leaves_break_nothing(self):
        book = Book(Leave("ann", ("bob",), (0, 9), (3, 5)), naming("bob"))
        self.check(4, ("ann", "x"), "zed", ("no", (("ann", "x", ("bob",)),)), (0, LIMIT), book)
        self.check(4, ("ann", "x"), "bob", ("yes", (("ann", "x", "bob", 1, ()),), (0,)), (0, LIMIT), book)

    def test_any_value(self):
        for value in [*samples.ANY_VALUES, "yes", ("yes",), ("no",), ("no", CHILDREN), ("yes", (), ()), ["no", ()]]:
            with self.subTest(value=value):
                self.check(7, CHAIN, "dan", value, None)
        for value in mangled.variants(BY_BOB):
            if not oracles.is_right_paper(BOOK, 7, CHAIN, "dan", value):
                self.check(7, CHAIN, "dan", value, None)

    def test_small_books(self):
        for book in SMALL_BOOKS[::2]:
            numbers = days_by_hand(book)
            for (chain, person), at in itertools.product(QUESTIONS, numbers):
                value = paper(book.on(at), chain, person)
                right = [number for number in numbers if oracles.is_right_paper(book, number, chain, person, value)]
                for number in numbers:
                    expected = None
                    if number in right:
                        wrong = [other for other in numbers if other not in right]
                        expected = (max([other + 1 for other in wrong if other < number], default=0),
                                    min([other - 1 for other in wrong if other > number], default=LIMIT))
                    self.check(number, chain, person, value, expected, book)


class DaysAndTimeline(PlainCase):
    def check_days(self, book, chain, person, expected):
        self.same(days_of(book, chain, person), expected)

    def check_timeline(self, book, chain, expected):
        self.same(list(timeline(book, chain)), expected)

    def test_bare_chains(self):
        self.check_days(BOOK, ("zed",), "zed", ((0, LIMIT),))
        self.check_days(BOOK, ("zed",), "ann", ())
        self.check_timeline(BOOK, ("zed",), [(0, LIMIT, ("zed",))])
        self.check_timeline(Book(), ("ann",), [(0, LIMIT, ("ann",))])

    def test_nobody(self):
        self.check_days(Book(), ("ann", "x"), "bob", ())
        self.check_timeline(Book(), ("ann", "x"), [(0, LIMIT, ())])
        self.check_days(BOOK, CHAIN, "eve", ())
        self.check_timeline(BOOK, ("dan", "doctor"), [(0, LIMIT, ())])

    def test_stretches_that_touch_or_overlap_are_one(self):
        for others in ((5, 9), (3, 9), (4, 9), (0, 9)):
            book = Book(naming("bob", (0, 4)), Naming("ann", "x", ("cy", "x"), others), Naming("cy", "x", ("bob",)))
            self.check_days(book, ("ann", "x"), "bob", ((0, 9),))
            self.check_timeline(book, ("ann", "x"), [(0, 9, ("bob",)), (10, LIMIT, ())])
        book = Book(naming("bob", (0, 4)), Naming("ann", "x", ("cy", "x"), (6, 9)), Naming("cy", "x", ("bob",)))
        self.check_days(book, ("ann", "x"), "bob", ((0, 4), (6, 9)))
        self.check_timeline(book, ("ann", "x"), [(0, 4, ("bob",)), (5, 5, ()), (6, 9, ("bob",)), (10, LIMIT, ())])

    def test_others_may_come_and_go(self):
        book = Book(naming("bob", (3, 9)), naming("cy", (5, 6)), naming("ann", (9, 12)))
        self.check_days(book, ("ann", "x"), "bob", ((3, 9),))
        self.check_days(book, ("ann", "x"), "cy", ((5, 6),))
        self.check_days(book, ("ann", "x"), "ann", ((9, 12),))
        self.check_timeline(book, ("ann", "x"), [
            (0, 2, ()), (3, 4, ("bob",)), (5, 6, ("bob", "cy")), (7, 8, ("bob",)), (9, 9, ("ann", "bob")),
            (10, 12, ("ann",)), (13, LIMIT, ())])

    def test_several_stretches_while_others_come_and_go(self):
        book = Book(naming("bob", (0, 1)), naming("bob", (5, 9)), naming("cy", (7, 7)), naming("bob", (12, 20)),
                    naming("cy", (14, 30)), naming("ann", (1, 13)))
        self.check_days(book, ("ann", "x"), "bob", ((0, 1), (5, 9), (12, 20)))
        self.check_days(book, ("ann", "x"), "cy", ((7, 7), (14, 30)))
        self.check_days(book, ("ann", "x"), "ann", ((1, 13),))

    def test_statements_that_do_not_matter(self):
        book = Book(naming("bob", (3, 9)), Naming("ann", "y", ("bob",), (5, 6)), Leave("ann", ("bob",), (0, 1), (7, 8)))
        self.check_days(book, ("ann", "x"), "bob", ((3, 9),))
        self.check_timeline(book, ("ann", "x"), [(0, 2, ()), (3, 9, ("bob",)), (10, LIMIT, ())])

    def test_ends_of_all_days(self):
        book = Book(naming("bob", (0, 0)), naming("bob", (LIMIT, LIMIT)), naming("cy", (1, LIMIT - 1)))
        self.check_days(book, ("ann", "x"), "bob", ((0, 0), (LIMIT, LIMIT)))
        self.check_days(book, ("ann", "x"), "cy", ((1, LIMIT - 1),))
        self.check_timeline(
            book, ("ann", "x"), [(0, 0, ("bob",)), (1, LIMIT - 1, ("cy",)), (LIMIT, LIMIT, ("bob",))])

    def test_a_timeline_that_is_left_early(self):
        book = Book(*[naming(person, (at, at)) for at, person in enumerate("bcdefgh")])
        found = []
        for part in timeline(book, ("ann", "x")):
            found.append(part)
            if len(found) == 3:
                break
        self.same(found, [(0, 0, ("b",)), (1, 1, ("c",)), (2, 2, ("d",))])
        self.same(next(iter(timeline(book, ("ann", "x")))), (0, 0, ("b",)))
        self.assertEqual(len(list(timeline(book, ("ann", "x")))), 8)

    def test_a_timeline_is_a_generator(self):
        steps = timeline(BOOK, CHAIN)
        self.assertIs(iter(steps), steps)
        self.same(next(steps), (0, 20, ("dan",)))
        self.same(next(steps), (21, LIMIT, ()))
        self.assertIsNone(next(steps, None))

    def test_small_books(self):
        for book, (chain, person) in itertools.product(SMALL_BOOKS, QUESTIONS):
            numbers = days_by_hand(book)
            parts = list(timeline(book, chain))
            self.assertEqual([part[0] for part in parts], [0] + [part[1] + 1 for part in parts[:-1]])
            self.assertEqual(parts[-1][1], LIMIT)
            for one, other in zip(parts, parts[1:]):
                self.assertNotEqual(one[2], other[2])
            stretches = days_of(book, chain, person)
            for one, other in zip(stretches, stretches[1:]):
                self.assertLess(one[1] + 1, other[0])
            for number in numbers:
                persons = persons_on(book, chain, number)
                self.assertEqual([part[2] for part in parts if part[0] <= number <= part[1]], [persons])
                self.assertEqual(any(first <= number <= last for first, last in stretches), person in persons)
            for first, last in [*stretches, *[part[:2] for part in parts]]:
                self.assertLessEqual({first, last}, set(numbers))
            self.assertTrue(oracles.are_plain(parts, stretches))


class PaperFor(PlainCase):
    def check(self, book, chain, person, stretch, kind):
        found = paper_for(book, chain, person, stretch)
        self.assertEqual(kind, is_served(book, chain, person, *stretch))
        if kind is None:
            self.assertIsNone(found)
            return
        self.assertEqual(found[0], kind)
        self.assertTrue(oracles.are_plain(found))
        for number in [number for number in days_by_hand(book) if stretch[0] <= number <= stretch[1]] + [*stretch]:
            self.assertTrue(oracles.is_right_paper(book, number, chain, person, found))

    def test_one_day_and_several(self):
        for stretch in ((0, 0), (3, 3), (0, 9), (7, 7), (4, 5), (9, 10), (5, 20), (10, 20), (6, 9)):
            self.check(BOOK, CHAIN, "dan", stretch, "yes")

    def test_no_one_paper_though_the_person_is_always_meant(self):
        for stretch in ((0, 20), (4, 10), (0, 10), (4, 20)):
            self.check(BOOK, CHAIN, "dan", stretch, None)
        book = Book(naming("bob", (0, 4)), naming("bob", (5, LIMIT)))
        self.check(book, ("ann", "x"), "bob", (0, LIMIT), None)
        self.check(book, ("ann", "x"), "bob", (4, 5), None)
        self.check(book, ("ann", "x"), "bob", (5, LIMIT), "yes")

    def test_the_answer_changes(self):
        for stretch in ((20, 21), (0, LIMIT), (3, 30)):
            self.check(BOOK, CHAIN, "dan", stretch, None)

    def test_all_days(self):
        self.check(BOOK, ("bob", "child"), "dan", (0, LIMIT), "yes")
        self.check(BOOK, ("bob", "child"), "ann", (0, LIMIT), "no")
        self.check(BOOK, ("ann",), "ann", (0, LIMIT), "yes")
        self.check(BOOK, ("ann",), "bob", (0, LIMIT), "no")
        self.check(BOOK, CHAIN, "eve", (0, LIMIT), "no")
        self.check(BOOK, CHAIN, "dan", (21, LIMIT), "no")
        self.check(BOOK, ("zed", "zed"), "dan", (LIMIT, LIMIT), "no")

    def test_never_meant_and_no_one_paper(self):
        book = Book(naming("bob", (0, 4)), Naming("bob", "y", ("cy",), (5, 9)))
        self.check(book, ("ann", "x", "y"), "cy", (0, 9), None)
        self.check(book, ("ann", "x", "y"), "cy", (0, 4), "no")
        self.check(book, ("ann", "x", "y"), "cy", (5, LIMIT), "no")
        self.check(book, ("ann", "x", "y"), "cy", (4, 5), None)

    def test_small_books(self):
        for book in SMALL_BOOKS:
            numbers = days_by_hand(book)
            for (chain, person), (at, first) in itertools.product(QUESTIONS[:3], list(enumerate(numbers))):
                for last in numbers[at::2]:
                    self.check(book, chain, person, (first, last), is_served(book, chain, person, first, last))


class LastingAndRelay(PlainCase):
    def lasting_by_hand(self, book, number, chain, person):
        """All pairs of days that begin or end something, tried one by one."""
        numbers = days_by_hand(book)
        good = [(first, last) for first in numbers for last in numbers
                if first <= number <= last and is_served(book, chain, person, first, last)]
        return tuple(sorted(
            one for one in good if not any(one != other and other[0] <= one[0] and one[1] <= other[1] for other in good)))

    def relay_by_hand(self, book, number, chain, person):
        """From each day on the longest stretch that one paper serves."""
        is_meant = person in persons_on(book, chain, number)
        numbers = days_by_hand(book)
        found = []
        first = number
        while first <= LIMIT and (person in persons_on(book, chain, first)) == is_meant:
            last = max(last for last in [first, *numbers]
                       if last >= first and is_served(book, chain, person, first, last))
            found.append((first, last))
            first = last + 1
        return tuple(found)

    def test_one_paper_for_all_days(self):
        for number in (0, 7, LIMIT):
            for chain, person in ((("ann",), "ann"), (("ann",), "bob"), (("bob", "child"), "dan"), (CHAIN, "eve")):
                self.same(lasting(BOOK.on(number), chain, person), ((0, LIMIT),))
                self.same(relay(BOOK.on(number), chain, person), ((number, LIMIT),))
        self.same(lasting(Book().on(5), ("ann", "x"), "bob"), ((0, LIMIT),))
        self.same(relay(Book().on(LIMIT), ("ann", "x"), "bob"), ((LIMIT, LIMIT),))

    def test_days_at_the_ends_of_stretches(self):
        for number, expected in (
            (0, ((0, 9),)), (4, ((0, 9),)), (5, ((0, 9), (5, 20))), (9, ((0, 9), (5, 20))), (10, ((5, 20),)),
            (20, ((5, 20),)), (21, ((21, LIMIT),)), (LIMIT, ((21, LIMIT),)),
        ):
            self.same(lasting(BOOK.on(number), CHAIN, "dan"), expected)
        for number, expected in (
            (0, ((0, 9), (10, 20))), (4, ((4, 9), (10, 20))), (5, ((5, 20),)), (9, ((9, 20),)), (20, ((20, 20),)),
            (21, ((21, LIMIT),)), (LIMIT, ((LIMIT, LIMIT),)),
        ):
            self.same(relay(BOOK.on(number), CHAIN, "dan"), expected)

    def test_stretches_that_overlap(self):
        book = Book(naming("bob", (0, 5)), naming("bob", (3, 8)), naming("bob", (6, 12)), naming("bob", (4, 7)))
        self.same(lasting(book.on(5), ("ann", "x"), "bob"), ((0, 5), (3, 8)))
        self.same(lasting(book.on(6), ("ann", "x"), "bob"), ((3, 8), (6, 12)))
        self.same(lasting(book.on(9), ("ann", "x"), "bob"), ((6, 12),))
        self.same(relay(book.on(0), ("ann", "x"), "bob"), ((0, 5), (6, 12)))
        self.same(relay(book.on(3), ("ann", "x"), "bob"), ((3, 8), (9, 12)))
        self.same(relay(book.on(13), ("ann", "x"), "bob"), ((13, LIMIT),))

    def test_persons_that_are_not_meant(self):
        book = Book(naming("bob", (0, 4)), Naming("bob", "y", ("cy",), (5, 9)), naming("bob", (10, 14)),
                    Naming("bob", "y", ("cy",), (20, LIMIT)))
        chain = ("ann", "x", "y")
        self.same(relay(book.on(0), chain, "cy"), ((0, 4), (5, 9), (10, 19), (20, LIMIT)))
        self.same(relay(book.on(2), chain, "cy"), ((2, 4), (5, 9), (10, 19), (20, LIMIT)))
        self.same(lasting(book.on(5), chain, "cy"), ((5, 9),))
        self.same(lasting(book.on(16), chain, "cy"), ((10, 19), (15, LIMIT)))
        book = book.with_more(Naming("ann", "x", ("bob",), (22, 22)))
        self.same(relay(book.on(3), chain, "cy"), ((3, 4), (5, 9), (10, 19), (20, 21)))
        self.same(relay(book.on(22), chain, "cy"), ((22, 22),))
        self.same(relay(book.on(23), chain, "cy"), ((23, LIMIT),))

    def test_a_relay_ends_where_the_answer_changes(self):
        book = Book(naming("bob", (0, 4)), naming("bob", (6, 9)))
        self.same(relay(book.on(0), ("ann", "x"), "bob"), ((0, 4),))
        self.same(relay(book.on(5), ("ann", "x"), "bob"), ((5, 5),))
        self.same(relay(book.on(6), ("ann", "x"), "bob"), ((6, 9),))
        self.same(lasting(book.on(5), ("ann", "x"), "bob"), ((5, 5),))
        self.same(lasting(book.on(3), ("ann", "x"), "bob"), ((0, 4),))

    def test_statements_that_do_not_matter(self):
        book = Book(naming("bob", (3, 9)), Leave("ann", ("bob",), (0, 1), (5, 6)), Naming("cy", "x", ("bob",), (4, 7)))
        self.same(lasting(book.on(5), ("ann", "x"), "bob"), ((3, 9),))
        self.same(relay(book.on(5), ("ann", "x"), "bob"), ((5, 9),))
        self.same(relay(book.on(0), ("ann", "x"), "bob"), ((0, 2),))
        self.same(lasting(book.on(0), ("ann", "x"), "cy"), ((0, LIMIT),))

    def test_the_first_stretches_are_as_long_as_possible(self):
        book = Book(naming("bob", (0, 3)), naming("bob", (0, 6)), naming("bob", (4, 9)), naming("bob", (7, 20)),
                    naming("bob", (8, 21)), naming("bob", (10, 30)))
        self.same(relay(book.on(0), ("ann", "x"), "bob"), ((0, 6), (7, 20), (21, 30)))
        self.same(relay(book.on(5), ("ann", "x"), "bob"), ((5, 9), (10, 30)))
        self.same(relay(book.on(8), ("ann", "x"), "bob"), ((8, 21), (22, 30)))

    def test_small_books(self):
        for book, (chain, person) in itertools.product(SMALL_BOOKS[::2], QUESTIONS):
            for number in days_by_hand(book)[::2]:
                expected = self.lasting_by_hand(book, number, chain, person)
                self.same(lasting(book.on(number), chain, person), expected)
                expected = self.relay_by_hand(book, number, chain, person)
                self.same(relay(book.on(number), chain, person), expected)
