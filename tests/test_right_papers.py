"""[64], [65], [66]: papers of rights, and [4] as far as it speaks of what groups may do."""

import itertools

from namechains.books import Book
from namechains.limits import LIMIT
from namechains.rights import is_right_paper, may, right_paper
from namechains.statements import Leave, Naming
from tests import mangled, oracles, right_oracles, samples
from tests.cases import PlainCase
from tests.test_rights import BOOK, GROUPS, books, leave

# Ann asks for two of three chains, the second and third of which mean dan, too; bob passes on to eve.
SHARED = Book(Leave("ann", (2, (("bob",), ("cy", "x"), ("cy", "y"))), (0, 9), None, 5), Naming("cy", "x", ("dan",)),
              Naming("cy", "y", ("cy", "x")), Leave("bob", ("eve",), (0, 5)), Naming("cy", "y", ("fay",), (5, 9)),
              Leave("eve", ("bob",), (0, 9), (7, LIMIT)), Leave("dan", (1, (("gus",), ("cy", "x"))), (3, 4)))

LINES = (("cy", "x", "dan", 1, ()), ("cy", "y", "dan", 2, (0,)))
STEPS = (("eve", 4, None, ()), ("bob", 5, 3, ((0, (), 0),)), ("dan", 5, None, ()),
         ("ann", None, 0, ((0, (), 1), (2, (1,), 2))))
YES = ("yes", LINES, STEPS)

ROWS = (("cy", "x", ("dan",)), ("cy", "y", ("dan",)))
PAIRS = (("ann", None), ("bob", 5), ("eve", 4))
COVERS = ((0, 5, (), ("dan",)),)
NO = ("no", ROWS, PAIRS, COVERS)

# Why bob alone may not: dan asks gus or, with less passes each time, dan himself.
DOWN = (("ann", None), *[("dan", passes) for passes in range(6)], *[("gus", passes) for passes in range(5)])
DOWN_COVERS = ((0, 5, (0,), ()), *[(6, passes, (), ()) for passes in range(5)])


class PaperCase(PlainCase):
    def check(self, book, number, owner, group, tag, value):
        """Whether the value is a right paper is told as the document's words say it; return it."""
        expected = (right_oracles.is_yes(book, number, owner, group, tag, value)
                    or right_oracles.is_no(book, number, owner, group, tag, value))
        found = is_right_paper(book.on(number), owner, group, tag, value)
        self.assertIs(found, expected, value)
        return found


class RightPapers(PaperCase):
    def check_paper(self, book, number, owner, group, tag):
        kind = "yes" if right_oracles.may(book, number, owner, group, tag) else "no"
        day = book.on(number)
        for found in (right_paper(day, owner, group, tag),
                      right_paper(day=day, owner=owner, group=tuple(group), tag=tag)):
            self.assertIs(type(found), tuple)
            self.assertTrue(oracles.are_plain(found))
            self.assertEqual(found[0], kind)
            self.assertEqual(may(day, owner, group, tag), kind == "yes")
            self.assertTrue(self.check(book, number, owner, group, tag, found))
            self.assertIs(is_right_paper(day=day, owner=owner, group=group, tag=tag, value=found), True)
            self.assertEqual(found, right_paper(day, owner, group, tag))
        return found

    def test_small_books(self):
        for book in books(91, 120):
            for owner, group, number in itertools.product(("ann", "bob", "zed"), GROUPS, (3, 9)):
                self.check_paper(book, number, owner, group, 4)

    def test_the_books_by_hand(self):
        for book, owner, group, number, tag in itertools.product(
                (BOOK, SHARED, Book()), ("ann", "bob", "zed"), (["dan"], ["eve", "dan"], ["fay", "gus", "zed"]), (0, 7, LIMIT),
                (0, 4, 9, 15, LIMIT)):
            self.check_paper(book, number, owner, group, tag)

    def test_passes_without_a_bound(self):
        letters = "abcdefghijklmnop"
        book = Book(*[leave("p" + one, ("p" + other,)) for one, other in zip(letters, letters[1:])],
                    leave("pp", ("pa",)), leave("pc", ("pb",), ("pd",), many=2))
        for owner, person in itertools.product(("pa", "pc", "pp"), ("pa", "pb", "pp", "zed")):
            self.check_paper(book, 0, owner, [person], 0)

    def test_a_paper_of_one_kind_alone(self):
        for book in books(92, 30, 5):
            for owner, group in itertools.product(("ann", "bob"), (["cy"], ["dan", "ann"])):
                found = right_paper(book.on(3), owner, group, 4)
                for value in mangled.variants(found):
                    if is_right_paper(book.on(3), owner, group, 4, value):
                        self.assertEqual(value[0], found[0])


class YesPapers(PaperCase):
    def check_yes(self, lines, steps, expected, number=0, tag=4, group=("eve", "dan"), owner="ann"):
        self.assertIs(self.check(SHARED, number, owner, list(group), tag, ("yes", lines, steps)), expected)

    def test_right_by_hand(self):
        self.check_yes(LINES, STEPS, True)
        self.check_yes(LINES, STEPS, True, tag=0, group=("dan", "zed", "eve"))
        self.check_yes((), (("ann", None, None, ()),), True, group=("ann",))
        self.check_yes((), (("zed", None, None, ()),), True, group=("ann", "zed"), owner="zed")

    def test_unused_lines_and_steps(self):
        more = (*LINES, ("cy", "x", "dan", 1, ()))
        self.check_yes(more, STEPS, True)
        self.check_yes(LINES, (("eve", None, None, ()), ("dan", 0, None, ())) + tuple(
            [(*step[:3], tuple([(*part[:2], part[2] + 2) for part in step[3]])) for step in STEPS]), True)
        self.check_yes(LINES, (*STEPS, STEPS[0], STEPS[3]), True)
        self.check_yes(LINES, (*STEPS, STEPS[0]), False)
        self.check_yes((*LINES, ("cy", "x", "dan", 4, ())), STEPS, False)

    def test_other_right_steps(self):
        self.check_yes(LINES, (STEPS[0], STEPS[1], ("dan", 5, None, ()), ("ann", None, 0, ((0, (), 1), (1, (0,), 2)))), True)
        fays = (*LINES, ("cy", "y", "fay", 4, ()))
        steps = (("dan", 5, None, ()), ("fay", 5, None, ()), ("ann", None, 0, ((1, (0,), 0), (2, (2,), 1))))
        self.check_yes(fays, steps, True, number=5, group=("dan", "fay"))
        self.check_yes(fays, steps, False, number=4, group=("dan", "fay"))

    def test_wrong_parts(self):
        def by(*parts):
            return (*STEPS[:3], ("ann", None, 0, parts))

        self.check_yes(LINES, by((0, (), 1)), False)
        self.check_yes(LINES, by((2, (1,), 2), (0, (), 1)), False)
        self.check_yes(LINES, by((1, (0,), 2), (2, (1,), 2)), False)
        self.check_yes(LINES, by((0, (), 1), (1, (0,), 2), (2, (1,), 2)), False)
        self.check_yes(LINES, by((0, (), 1), (0, (), 1)), False)
        self.check_yes(LINES, by((0, (), 0), (2, (1,), 2)), False)
        self.check_yes(LINES, by((0, (), 1), (3, (1,), 2)), False)
        self.check_yes(LINES, by((0, (), 1), (2, (0,), 2)), False)
        self.check_yes(LINES, by((0, (), 1), (2, (), 2)), False)
        self.check_yes(LINES, by((0, (), 3), (2, (1,), 2)), False)
        self.check_yes(LINES, by((0, (), 1), (2, (1,), -2)), False)
        self.check_yes(LINES, by((False, (), 1), (2, (1,), 2)), False)
        self.check_yes(LINES, by((0, (), True), (2, (1,), 2)), False)
        self.check_yes(LINES, by((0, (), 1), (2, (True,), 2)), False)
        self.check_yes(LINES, by((0, (), 1), [2, (1,), 2]), False)
        self.check_yes(LINES, by((0, [], 1), (2, (1,), 2)), False)

    def test_wrong_passes_and_persons(self):
        def eves(*first):
            return (first, *STEPS[1:])

        for passes in (3, 5, None, True, -1, 10, "4"):
            self.check_yes(LINES, eves("eve", passes, None, ()), False)
        for person in ("bob", "zed", None, ("eve",)):
            self.check_yes(LINES, eves(person, 4, None, ()), False)
        self.check_yes(LINES, eves("eve", 4, None, ((0, (), 0),)), False)
        self.check_yes(LINES, eves("eve", 4, None, []), False)
        self.check_yes(LINES, eves("eve", 4, 5, ()), False)
        self.check_yes(LINES, eves("eve", 4, None), False)
        zero = Book(leave("ann", ("bob",), times=0), leave("bob", ("cy",)))
        self.assertTrue(self.check(zero, 0, "ann", ["bob"], 0, (
            "yes", (), (("bob", 0, None, ()), ("ann", None, 0, ((0, (), 0),))))))
        self.assertFalse(self.check(zero, 0, "ann", ["bob"], 0, (
            "yes", (), (("bob", False, None, ()), ("ann", None, 0, ((0, (), 0),))))))
        # Passes 0 are only for the group.
        self.assertFalse(self.check(zero, 0, "ann", ["cy"], 0, (
            "yes", (), (("cy", 0, None, ()), ("bob", 0, 1, ((0, (), 0),)), ("ann", None, 0, ((0, (), 1),))))))
        self.assertFalse(self.check(zero, 0, "ann", ["cy"], 0, (
            "yes", (), (("cy", -1, None, ()), ("bob", 0, 1, ((0, (), 0),)), ("ann", None, 0, ((0, (), 1),))))))

    def test_leaves_that_do_not_count(self):
        steps = (("gus", 9, None, ()), ("dan", None, 6, ((0, (), 0),)))
        book = Book(*SHARED.statements[:6], Leave("dan", (1, (("gus",), ("cy", "x"))), (3, 4), None, 9))
        for tag, is_right in ((2, False), (3, True), (4, True), (5, False)):
            self.assertIs(self.check(book, 0, "dan", ["gus"], tag, ("yes", (), steps)), is_right)
        steps = (("bob", None, None, ()), ("eve", None, 5, ((0, (), 0),)))
        for number, is_right in ((6, False), (7, True), (LIMIT, True)):
            self.assertIs(self.check(book, number, "eve", ["bob"], 9, ("yes", (), steps)), is_right)
        for index in (3, 1, 7, -2, True, None, "5"):
            steps = (("bob", None, None, ()), ("eve", None, index, ((0, (), 0),)))
            self.assertFalse(self.check(book, 7, "eve", ["bob"], 4, ("yes", (), steps)))

    def test_each_change_in_one_place(self):
        found = {True: 0, False: 0}
        for value in mangled.variants(YES):
            found[self.check(SHARED, 0, "ann", ["eve", "dan"], 4, value)] += 1
        self.assertGreater(found[False], 500)
        self.assertGreater(found[True], 0)

    def test_the_paper_of_another_question(self):
        self.check_yes(LINES, STEPS, False, group=("eve",))
        self.check_yes(LINES, STEPS, False, group=("dan", "cy"))
        self.check_yes(LINES, STEPS, False, tag=6)
        self.check_yes(LINES, STEPS, False, tag=10)
        self.check_yes(LINES, STEPS, False, owner="bob")
        self.assertFalse(self.check(BOOK, 0, "ann", ["eve", "dan"], 4, YES))


class NoPapers(PaperCase):
    def check_no(self, rows, pairs, covers, expected, number=0, tag=4, group=("dan", "zed"), owner="ann"):
        self.assertIs(self.check(SHARED, number, owner, list(group), tag, ("no", rows, pairs, covers)), expected)

    def test_right_by_hand(self):
        self.check_no(ROWS, PAIRS, COVERS, True)
        self.check_no(ROWS, (("ann", None), ("bob", 5)), COVERS, True, tag=9)
        self.check_no(ROWS, (("bob", 5), ("ann", None), ("eve", 4)), COVERS, True)
        self.check_no(ROWS, DOWN, DOWN_COVERS, True, group=("bob",))
        self.check_no(ROWS, DOWN[::-1], DOWN_COVERS[::-1], True, group=("bob",))
        self.check_no(ROWS, (("zed", None),), (), True, owner="zed", group=("ann",))

    def test_more_than_is_needed(self):
        more = (("ann", "x", ("gus",)), *ROWS, ("fay", "fay", ("dan", "fay")))
        self.check_no(more, (*PAIRS, ("zed", 0), ("cy", None), ("ann", 0)), COVERS, False)
        self.check_no(more, (*PAIRS, ("fay", 0), ("cy", None), ("ann", 0)), COVERS, True)
        self.check_no(ROWS, (*PAIRS, ("bob", 9), ("eve", 8)), (*COVERS, (0, 9, (1,), ())), False)
        self.check_no(ROWS, (*PAIRS, ("bob", 9), ("eve", 8)), (*COVERS, (0, 9, (), ("dan",))), True)
        self.check_no((("cy", "x", ("dan", "gus")), ("cy", "y", ("dan", "gus"))), (*PAIRS, ("gus", 5)), COVERS, True)
        self.check_no((("cy", "x", ("dan", "gus")), ("cy", "y", ("dan", "gus"))), PAIRS, COVERS, False)

    def test_wrong_rows(self):
        self.check_no(ROWS[:1], PAIRS, COVERS, False)
        self.check_no(ROWS[::-1], PAIRS, COVERS, False)
        self.check_no((ROWS[0], ("cy", "y", ("fay",))), PAIRS, COVERS, False)
        self.check_no(ROWS, PAIRS, COVERS, False, number=5)
        self.check_no((ROWS[0], ("cy", "y", ("dan", "fay"))), (*PAIRS, ("fay", 5)), COVERS, True, number=5)
        self.check_no((ROWS[0], ("cy", "y", ("dan", "fay"))), PAIRS, COVERS, False, number=5)
        self.check_no(list(ROWS), PAIRS, COVERS, False)

    def test_wrong_pairs(self):
        for pairs in (PAIRS[1:], PAIRS[:2], (*PAIRS, PAIRS[0]), (*PAIRS, ("dan", 3)), (*PAIRS, ("zed", 0)), list(PAIRS),
                      (*PAIRS, ("fay", True)), (*PAIRS, ("fay", 10)), (*PAIRS, ("fay", -1)), (*PAIRS, ("Fay", 1)),
                      (*PAIRS, ["fay", 1]), (*PAIRS, ("fay",)), (*PAIRS, ("fay", 1, 1)), (*PAIRS, None),
                      (("ann", None), ("bob", 4), ("eve", 3)), (("ann", 9), ("bob", 5), ("eve", 4)),
                      (("ann", None), ("bob", 5), ("eve", 5))):
            self.check_no(ROWS, pairs, COVERS, False)

    def test_wrong_covers(self):
        for covers in ((), (*COVERS, COVERS[0]), list(COVERS), (list(COVERS[0]),), ((0, 5, [], ("dan",)),),
                       ((0, 5, (), ["dan"]),), ((0, 4, (), ("dan",)),), ((0, None, (), ("dan",)),),
                       ((0, 5, (0,), ("dan",)),), ((0, 5, (), ("dan", "eve")),), ((0, 5, (), ("eve",)),), ((0, 5, (), ()),),
                       ((0, 5, (1,), ()),), ((0, 5, (2,), ()),), ((0, 5, (3,), ()),), ((0, 5, (-1,), ()),),
                       ((0, 5, (), ("Dan",)),), ((0, 5, (), "dan"),), ((False, 5, (), ("dan",)),), ((3, 5, (), ()),),
                       ((1, 5, (), ()),), ((9, 5, (), ()),), ((None, 5, (), ()),), ((0, 5, (), ("dan",), ()),),
                       (*COVERS, (3, 4, (), ())), (*COVERS, (3, 9, (), ())), (*COVERS, (5, 1, (), ())), (*COVERS, (6, 1, (), ())), (*COVERS, (0, 1, (), ())), (*COVERS, None)):
            self.check_no(ROWS, PAIRS, covers, False)
        self.check_no(ROWS, (*PAIRS, ("gus", 3)), (*COVERS, (6, 3, (), ())), False)
        for at in range(len(DOWN)):
            self.check_no(ROWS, DOWN[:at] + DOWN[at + 1:], DOWN_COVERS, False, group=("bob",))
        for at in range(len(DOWN_COVERS)):
            self.check_no(ROWS, DOWN, DOWN_COVERS[:at] + DOWN_COVERS[at + 1:], False, group=("bob",))
        self.check_no(ROWS, DOWN, ((0, 5, (False,), ()), *DOWN_COVERS[1:]), False, group=("bob",))
        self.check_no(ROWS, DOWN, ((0, 5, (1,), ()), *DOWN_COVERS[1:]), False, group=("bob",))
        self.check_no(ROWS, DOWN, ((False, 5, (0,), ()), *DOWN_COVERS[1:]), False, group=("bob",))

    def test_numbers_and_persons_that_ascend(self):
        book = Book(leave("ann", ("bob",), ("cy",), ("dan",), ("eve",), many=4))
        pairs = (("ann", None),)
        for numbers, persons, is_right in (
                ((0, 1), ("dan",), False), ((0, 1, 2), (), False), ((0, 1), ("dan", "eve"), False), ((0,), (), False)):
            self.assertIs(self.check(book, 0, "ann", ["zed"], 0, ("no", (), pairs, ((0, None, numbers, persons),))), is_right)
        for numbers, persons, is_right in (
                ((0, 1), (), True), ((1, 0), (), False), ((0, 0), (), False), ((0,), ("cy",), True), ((), ("bob", "cy"), True),
                ((), ("cy", "bob"), False), ((), ("bob", "bob"), False), ((0, 1), ("cy",), True), ((0, 1), ("bob", "cy"), False),
                ((2,), ("bob",), False)):
            self.assertIs(self.check(book, 0, "ann", ["bob", "cy"], 0, (
                "no", (), (*pairs, ("dan", None), ("eve", None)), ((0, None, numbers, persons),))), is_right)

    def test_passes_0_need_nothing(self):
        book = Book(leave("ann", ("bob",), times=0), leave("bob", ("cy",)))
        self.assertTrue(self.check(book, 0, "ann", ["cy"], 0, ("no", (), (("ann", None), ("bob", 0)), ())))
        self.assertFalse(self.check(book, 0, "ann", ["cy"], 0, ("no", (), (("ann", None), ("bob", False)), ())))
        self.assertFalse(self.check(book, 0, "ann", ["cy"], 0, ("no", (), (("ann", None), ("bob", 1)), ())))

    def test_each_change_in_one_place(self):
        found = {True: 0, False: 0}
        for value in mangled.variants(NO):
            found[self.check(SHARED, 0, "ann", ["dan", "zed"], 4, value)] += 1
        self.assertGreater(found[False], 300)
        self.assertGreater(found[True], 0)

    def test_the_paper_of_another_question(self):
        self.check_no(ROWS, PAIRS, COVERS, False, group=("eve", "dan"))
        self.check_no(ROWS, PAIRS, COVERS, False, group=("ann",))
        self.check_no(ROWS, PAIRS, COVERS, False, owner="cy")
        self.check_no(ROWS, PAIRS, COVERS, False, tag=10)
        self.assertFalse(self.check(BOOK, 0, "ann", ["dan", "zed"], 4, NO))


class AnyValues(PaperCase):
    def test_any_value(self):
        for value in samples.ANY_VALUES:
            for whole in (value, ("yes", value, value), ("yes", (), value), ("no", value, value, value),
                          ("no", (), value, ()), ("no", (), (("ann", None),), value), ("yes", (), (value,)),
                          ("yes", (), ((value, value, value, value),)), ("no", (), (("ann", value),), ()),
                          ("no", (), (("ann", None),), ((value, value, value, value),))):
                self.check(Book(), 0, "ann", ["bob"], 0, whole)
                self.check(SHARED, 0, "ann", ["dan", "zed"], 4, whole)
        self.assertTrue(self.check(Book(), 0, "ann", ["bob"], 0, ("no", (), (("ann", None),), ())))

    def test_other_kinds_of_papers(self):
        for kind in ("never", "Yes", "no ", "", None, 1, True, (), "yes"):
            self.check(SHARED, 0, "ann", ["dan", "zed"], 4, (kind, *NO[1:]))
            self.check(SHARED, 0, "ann", ["eve", "dan"], 4, (kind, *YES[1:]))
            self.check(SHARED, 0, "ann", ["eve", "dan"], 4, (kind, *YES[1:], ()))
