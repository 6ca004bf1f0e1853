"""[22], [23], [24], and [4] as far as it speaks of them: papers for yes and for no."""

import unittest

from namechains.books import Book
from namechains.limits import LIMIT
from namechains.meaning import means
from namechains.papers import is_paper, paper
from namechains.statements import Leave, Naming
from tests import mangled, oracles, samples

# The day of [27] with a Leave, so that the indexes are those of the book.
BOOK = Book(Leave("ann", ("bob",), (0, 9)), Naming("ann", "doctor", ("bob",), (0, 9)),
            Naming("ann", "doctor", ("cy",), (5, 20)), Naming("bob", "child", ("dan",)),
            Naming("cy", "child", ("dan",)), Naming("eve", "uncle", ("ann", "doctor", "child")))
CHAIN = ("ann", "doctor", "child")
BOB = ("ann", "doctor", "bob", 1, ())
CY = ("ann", "doctor", "cy", 2, ())
BOBS = ("bob", "child", "dan", 3, ())
CYS = ("cy", "child", "dan", 4, ())

ROWS = (("ann", "doctor", ("bob", "cy")), ("bob", "child", ("dan",)), ("cy", "child", ("dan",)),
        ("eve", "uncle", ("dan",)))


class PaperCase(unittest.TestCase):
    def check(self, day, chain, person, value, is_right):
        found = (is_paper(day, chain, person, value), is_paper(day=day, chain=chain, person=person, value=value))
        for answer in found:
            self.assertIs(answer, is_right, (day.number, chain, person, value))


class Papers(PaperCase):
    def check_paper(self, day, chain, person):
        is_meant = person in oracles.meant(oracles.rules_on(day.book, day.number), chain)
        for found in (paper(day, chain, person), paper(day=day, chain=chain, person=person)):
            self.assertIs(type(found), tuple)
            self.assertTrue(oracles.are_plain(found))
            self.assertEqual(found[0], "yes" if is_meant else "no")
            self.assertTrue(
                oracles.is_right_paper(day.book, day.number, chain, person, found),
                (day.book.statements, day.number, chain, person, found))
            self.check(day, chain, person, found, True)

    def test_small_books(self):
        chains = oracles.all_chains(("ann", "bob", "zed"), ("x", "y"), 3)
        for book in oracles.random_books(3, 60, days=[None, (0, 4), (3, 9)]):
            for number in (0, 3, 9):
                for chain in [*chains, ("ann", "x", "x", "y"), ("cy", "z"), ("ann",) + ("x",) * 8]:
                    for person in ("ann", "cy", "zed"):
                        self.check_paper(book.on(number), chain, person)

    def test_circles(self):
        book = Book(Naming("ann", "x", ("ann", "x", "x")), Naming("ann", "x", ("bob", "y")),
                    Naming("bob", "y", ("ann", "x")), Naming("bob", "y", ("ann",)), Naming("cy", "x", ("cy", "x")))
        for chain in (("ann", "x"), ("bob", "y"), ("ann", "x", "x", "x", "x", "x", "x", "x", "x"), ("cy", "x")):
            for person in ("ann", "bob", "cy", "zed"):
                self.check_paper(book.on(LIMIT), chain, person)

    def test_bare_chains(self):
        for person in ("ann", "zed"):
            self.check_paper(BOOK.on(0), ("ann",), person)
            self.check_paper(BOOK.on(0), ("zed",), person)
            self.check_paper(Book().on(0), ("zed",), person)

    def test_a_yes_paper_exactly_if_the_person_is_meant(self):
        for number in (0, 7, 10, 21):
            for chain in oracles.all_chains(("ann", "bob", "eve"), ("doctor", "child", "uncle"), 3):
                for person in ("ann", "bob", "cy", "dan"):
                    kind = "yes" if person in means(BOOK.on(number), chain) else "no"
                    self.assertEqual(paper(BOOK.on(number), chain, person)[0], kind)
                    self.check_paper(BOOK.on(number), chain, person)

    def test_equal_questions_have_equal_answers(self):
        for book in oracles.random_books(5, 10):
            for chain, person in ((("ann", "x"), "bob"), (("bob", "x", "y"), "ann")):
                found = paper(book.on(0), chain, person)
                self.assertEqual(paper(book.on(0), chain, person), found)
                self.assertEqual(paper(Book(*book.statements).on(0), chain, person), found)

    def test_long_proofs(self):
        words = "abcdefghijklmnopqrstuvw"
        namings = [Naming(words[at], "x", (words[at + 1], "x", "y")) for at in range(10)]
        namings += [Naming("k", "x", ("l",)), Naming("l", "y", ("l", "z", "z")), Naming("l", "z", ("l",))]
        self.check_paper(Book(*namings).on(0), ("a", "x"), "l")
        self.check_paper(Book(*namings[::-1]).on(0), ("a", "x"), "l")


class YesPapers(PaperCase):
    def right(self, lines, places, chain=CHAIN, person="dan", number=7):
        self.assertTrue(oracles.is_yes_paper(BOOK, number, chain, person, ("yes", lines, places)))
        self.check(BOOK.on(number), chain, person, ("yes", lines, places), True)

    def wrong(self, lines, places, chain=CHAIN, person="dan", number=7):
        self.assertFalse(oracles.is_yes_paper(BOOK, number, chain, person, ("yes", lines, places)))
        self.check(BOOK.on(number), chain, person, ("yes", lines, places), False)

    def test_right_ones(self):
        self.right((BOB, BOBS), (0, 1))
        self.right((CY, CYS), (0, 1))
        self.right((BOBS, BOB), (1, 0))
        self.right((), (), ("ann",), "ann")
        self.right((BOB,), (0,), ("ann", "doctor"), "bob")
        self.right((BOB, BOBS, ("eve", "uncle", "dan", 5, (0, 1))), (2,), ("eve", "uncle"))

    def test_lines_that_are_not_used_or_stand_twice(self):
        self.right((CY, BOB, BOBS, CYS), (1, 2))
        self.right((BOB, BOB, BOBS, BOBS), (1, 2))
        self.right((BOB, BOB, BOBS, BOBS), (0, 3))
        self.right((BOB,), (), ("ann",), "ann")
        self.right((CY, CYS, BOB, BOBS, ("eve", "uncle", "dan", 5, (0, 1)), ("eve", "uncle", "dan", 5, (2, 3))), (5,),
                   ("eve", "uncle"))

    def test_lines_that_are_not_used_must_be_right(self):
        self.wrong((BOB, BOBS, ("zed", "child", "dan", 3, ())), (0, 1))
        self.wrong((BOB, BOBS, CY), (0, 1), number=4)
        self.wrong((BOB, BOBS, None), (0, 1))

    def test_places_that_do_not_lead_there(self):
        self.wrong((BOB, BOBS), (1, 0))
        self.wrong((BOB, CYS), (0, 1))
        self.wrong((BOB, BOBS), (0,))
        self.wrong((BOB, BOBS), (0, 1, 1))
        self.wrong((BOB, BOBS), ())
        self.wrong((BOB, BOBS), (0, 1), person="bob")
        self.wrong((BOB, BOBS), (0, 1), ("ann", "doctor"), "bob")
        self.wrong((BOB, BOBS), (0, 1), ("cy", "doctor", "child"))
        self.wrong((BOB, BOBS), (0, 1), ("ann", "doctor", "uncle"))
        self.wrong((BOB, BOBS), (0, 2))
        self.wrong((BOB, BOBS), (0, -1))
        self.wrong((BOB, BOBS), (-2, 1))
        self.wrong((BOB, BOBS), (False, 1))
        self.wrong((BOB, BOBS), (0, True))
        self.wrong((BOB, BOBS), [0, 1])
        self.wrong([BOB, BOBS], (0, 1))
        self.wrong((), (), ("ann",), "bob")

    def test_a_line_rests_on_earlier_lines_alone(self):
        uncle = ("eve", "uncle", "dan", 5, (1, 2))
        self.right((CY, BOB, BOBS, uncle), (3,), ("eve", "uncle"))
        self.wrong((uncle, BOB, BOBS), (0,), ("eve", "uncle"))
        self.wrong((BOB, ("eve", "uncle", "dan", 5, (0, 2)), BOBS), (1,), ("eve", "uncle"))
        self.wrong((BOB, BOBS, ("eve", "uncle", "dan", 5, (0, -2))), (2,), ("eve", "uncle"))
        self.wrong((BOB, BOBS, ("eve", "uncle", "dan", 5, (False, 1))), (2,), ("eve", "uncle"))
        self.wrong((BOB, BOBS, ("eve", "uncle", "dan", 5, [0, 1])), (2,), ("eve", "uncle"))
        self.wrong((BOB, BOBS, ("eve", "uncle", "dan", 5, (0,))), (2,), ("eve", "uncle"))

    def test_a_line_cannot_rest_on_itself(self):
        book = Book(Naming("ann", "x", ("ann", "x")))
        for value in (("yes", (("ann", "x", "bob", 0, (0,)),), (0,)),
                      ("yes", (("ann", "x", "bob", 0, (1,)), ("ann", "x", "bob", 0, (0,))), (0,))):
            self.check(book.on(0), ("ann", "x"), "bob", value, False)

    def test_wrong_indexes(self):
        for index in (0, 2, 3, 6, -5, LIMIT, True, False, None, "1", (1,), [1]):
            self.wrong((("ann", "doctor", "bob", index, ()), BOBS), (0, 1))
        # True is equal to 1, the right index.
        self.wrong((("ann", "doctor", "bob", True, ()), BOBS), (0, 1))

    def test_namings_of_other_days(self):
        for number in (0, 9):
            self.right((BOB, BOBS), (0, 1), number=number)
        for number in (10, 21, LIMIT):
            self.wrong((BOB, BOBS), (0, 1), number=number)
        for number in (5, 20):
            self.right((CY, CYS), (0, 1), number=number)
        for number in (0, 4, 21):
            self.wrong((CY, CYS), (0, 1), number=number)

    def test_words_of_a_line(self):
        for line in (("bob", "doctor", "bob", 1, ()), ("ann", "child", "bob", 1, ()), ("ann", "doctor", "cy", 1, ()),
                     ("Ann", "doctor", "bob", 1, ()), ("ann", "doctor", "bob", 1), ("ann", "doctor", "bob", 1, (), ()),
                     ["ann", "doctor", "bob", 1, ()], ("ann", "doctor", None, 1, ()), "bob", (), None):
            self.wrong((line, BOBS), (0, 1))

    def test_no_paper_for_another_question(self):
        value = ("yes", (BOB, BOBS), (0, 1))
        self.check(BOOK.on(7), CHAIN, "dan", value, True)
        self.check(BOOK.on(7), CHAIN, "cy", value, False)
        self.check(BOOK.on(7), CHAIN[:2], "dan", value, False)
        self.check(BOOK.on(7), CHAIN[:2], "bob", value, False)
        self.check(BOOK.on(10), CHAIN, "dan", value, False)
        self.check(BOOK.without(0).on(7), CHAIN, "dan", value, False)


class NoPapers(PaperCase):
    def right(self, rows, chain=CHAIN, person="eve", number=7):
        self.assertTrue(oracles.is_no_paper(BOOK, number, chain, person, ("no", rows)))
        self.check(BOOK.on(number), chain, person, ("no", rows), True)

    def wrong(self, rows, chain=CHAIN, person="eve", number=7):
        self.assertFalse(oracles.is_no_paper(BOOK, number, chain, person, ("no", rows)))
        self.check(BOOK.on(number), chain, person, ("no", rows), False)

    def test_right_ones(self):
        self.right(ROWS)
        self.right(ROWS, ("ann", "doctor"), "dan")
        self.right(ROWS, ("zed", "doctor"), "dan")
        self.right(ROWS, ("ann",), "bob")
        self.right(ROWS, ("eve", "uncle"), "bob")
        self.right(ROWS[1:3], number=21)

    def test_more_than_is_needed(self):
        self.right(((*ROWS[0][:2], ("bob", "cy", "zed")), *ROWS[1:]))
        self.right((*ROWS, ("eve", "zzz", ("ann",)), ("zed", "doctor", ("eve", "zed", "zoe"))))
        self.right((("aaa", "b", ("c",)), *ROWS))
        self.right(ROWS, number=21)
        self.wrong(((*ROWS[0][:2], ("bob", "cy", "zed")), *ROWS[1:]), CHAIN[:2], "zed")
        self.wrong((*ROWS, ("zed", "child", ("eve",))), ("zed", "child"))

    def test_rows_that_lack_a_person(self):
        for at, row in enumerate(ROWS):
            self.wrong(ROWS[:at] + ROWS[at + 1:])
            for person in row[2]:
                rest = tuple(other for other in row[2] if other != person)
                self.wrong(ROWS[:at] + ((*row[:2], rest),) + ROWS[at + 1:])
                self.wrong(ROWS[:at] + ((*row[:2], (*rest, "zed")),) + ROWS[at + 1:])
        self.wrong(((*ROWS[0][:2], ("bob", "cy", "eve")), *ROWS[1:], ("eve", "child", ("zoe",))))

    def test_rows_of_the_day_alone_are_asked_for(self):
        early = ((*ROWS[0][:2], ("bob",)), *ROWS[1:])
        late = ((*ROWS[0][:2], ("cy",)), *ROWS[1:])
        for number in (0, 4, 21):
            self.right(early, number=number)
        for number in (5, 9, 10, 20):
            self.wrong(early, number=number)
        for number in (10, 20, 21):
            self.right(late, number=number)
        for number in (0, 5, 9):
            self.wrong(late, number=number)
        self.right(((ROWS[1]), ROWS[2]), number=21)
        self.wrong((ROWS[1],), number=21)

    def test_the_form_of_rows(self):
        self.wrong((ROWS[1], ROWS[0], *ROWS[2:]))
        self.wrong((ROWS[0], *ROWS))
        self.wrong((*ROWS[:2], ("bob", "child", ("dan", "zed")), *ROWS[2:]))
        self.right((*ROWS[:3], ("eve", "uncle", ("dan", "zed"))))
        self.wrong((*ROWS, ("eve", "uncle", ("dan", "zed"))))
        self.wrong((*ROWS[:3], ("eve", "uncle", ("dan", "zed")), ROWS[3]))
        self.wrong(((*ROWS[0][:2], ("cy", "bob")), *ROWS[1:]))
        self.wrong(((*ROWS[0][:2], ("bob", "bob", "cy")), *ROWS[1:]))
        self.wrong((*ROWS, ("zed", "x", ())))
        self.wrong((*ROWS, ("zed", "X", ("ann",))))
        self.wrong((*ROWS, ("zed", "x", ("ann", "Zed"))))
        self.wrong((*ROWS, ("zed", "x", ["ann"])))
        self.wrong((*ROWS, ["zed", "x", ("ann",)]))
        self.wrong((*ROWS, ("zed", "x", "ann")))
        self.wrong((*ROWS, ("zed", "x")))
        self.wrong((*ROWS, ("zed", "x", ("ann",), ("ann",))))
        self.wrong((*ROWS, None))
        self.wrong(list(ROWS))
        self.wrong({row[:2]: row[2] for row in ROWS})

    def test_no_rows_at_all(self):
        self.wrong(())
        self.check(Book().on(0), ("ann", "x"), "bob", ("no", ()), True)
        self.check(Book().on(0), ("ann",), "bob", ("no", ()), True)
        self.check(Book().on(0), ("ann",), "ann", ("no", ()), False)
        circle = Book(Naming("ann", "x", ("ann", "x")))
        self.check(circle.on(0), ("ann", "x"), "bob", ("no", ()), True)
        self.check(circle.on(0), ("ann", "x"), "bob", ("no", (("ann", "x", ("cy",)),)), True)
        self.check(circle.on(0), ("ann", "x"), "bob", ("no", (("ann", "x", ("bob",)),)), False)

    def test_none_for_a_person_who_is_meant(self):
        self.wrong(ROWS, person="dan")
        self.wrong(ROWS[:1] + ROWS[3:], person="dan")
        self.wrong((), ("ann",), "ann")
        self.wrong(ROWS, ("ann", "doctor"), "cy")


class AnyValues(PaperCase):
    def test_any_value(self):
        values = [*samples.ANY_VALUES, "yes", "no", ("yes",), ("no",), ("yes", ()), ("no", (), ()), ("yes", (), (), ()),
                  ("never", ROWS), ("no", None), ("no", "ann"), ("yes", None, ()), ("yes", (), None), ("yes", "", ""),
                  ["yes", (), ()], ["no", ()], ("no", ({},)), ("yes", ({},), ()), ("YES", (), ()), (None, (), ()),
                  (["yes"], (), ()), ({}, ())]
        for value in values:
            for number in (0, 7, LIMIT):
                with self.subTest(value=value):
                    self.check(BOOK.on(number), CHAIN, "dan", value, False)
                    self.check(BOOK.on(number), CHAIN, "eve", value, False)
                    self.check(BOOK.on(number), ("ann",), "ann", value, False)

    def test_papers_of_the_other_kind(self):
        self.check(BOOK.on(7), CHAIN, "dan", ("no", ROWS), False)
        self.check(BOOK.on(7), CHAIN, "dan", ("no", (BOB, BOBS), (0, 1)), False)
        self.check(BOOK.on(7), CHAIN, "eve", ("yes", ROWS), False)
        self.check(BOOK.on(7), CHAIN, "eve", ("yes", (BOB, BOBS), (0, 1)), False)

    def test_papers_changed_in_one_place(self):
        uncle = ("eve", "uncle")
        for number, chain, person, value in (
            (7, CHAIN, "dan", ("yes", (BOB, CY, BOBS, CYS), (0, 2))),
            (7, uncle, "dan", ("yes", (BOB, BOBS, ("eve", "uncle", "dan", 5, (0, 1))), (2,))),
            (7, CHAIN, "eve", ("no", ROWS)),
            (21, uncle, "bob", ("no", (*ROWS[1:3], ("zed", "x", ("ann", "zed"))))),
        ):
            self.check(BOOK.on(number), chain, person, value, True)
            for other in mangled.variants(value):
                is_right = oracles.is_right_paper(BOOK, number, chain, person, other)
                self.check(BOOK.on(number), chain, person, other, is_right)

    def test_papers_of_small_books_changed_in_one_place(self):
        for book in oracles.random_books(4, 12, days=[None, (0, 4)]):
            for chain, person in ((("ann", "x"), "bob"), (("bob", "x", "y"), "ann")):
                value = paper(book.on(4), chain, person)
                for number in (4, 5):
                    for other in [value, *mangled.variants(value)]:
                        is_right = oracles.is_right_paper(book, number, chain, person, other)
                        self.check(book.on(number), chain, person, other, is_right)
