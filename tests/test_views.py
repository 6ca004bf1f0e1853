"""[87], [88], [89]: what can be read of logs; [2], [4] as far as they speak of it."""

import itertools
import random

from namechains.books import Book
from namechains.errors import Forked, InvalidLogs, TooMany
from namechains.futures import can_come, sure
from namechains.limits import LIMIT
from namechains.logs import LoggedHall, View, enough, fork, is_sure, is_thinkable, joined
from namechains.statements import Leave, Naming
from tests import oracles, right_oracles, samples
from tests.cases import PlainCase
from tests.test_book import MANY
from tests.test_halls import FOUR, ONE, THREE, TWO
from tests.test_logs import lines, stated, taken

FIVE = Naming("ann", "y", ("cy", "x"), (0, LIMIT - 1))


class ViewCase(PlainCase):
    def check_error(self, error, fields, action):
        with self.assertRaises(error) as caught:
            action()
        self.assertIs(type(caught.exception), error)
        for name, value in fields.items():
            self.assertIs(type(getattr(caught.exception, name)), type(value))
            self.assertEqual(getattr(caught.exception, name), value)

    def check_view(self, view, statements, counts, closed=()):
        self.assertEqual(view.book, Book(*statements))
        self.same(view.lines, counts)
        self.assertEqual(list(view.lines), sorted(counts))
        self.same(view.closed, tuple(closed))

    def check_read(self, text, statements, count, closed=False, person="ann"):
        """So many lines of this log are read, and the statements are there then."""
        view = View({person: text})
        self.check_view(view, statements, {person: count}, [person] if closed else [])
        whole = "".join([f"{line}\n" for line in text.split("\n")[:count]])
        self.same(view.logs, {person: whole} if count else {})


class Reading(ViewCase):
    def test_whole_logs(self):
        self.check_view(View({}), [], {})
        self.check_view(View(logs={"zed": "", "ann": ""}), [], {"ann": 0, "zed": 0})
        self.check_read("1 + ann x = bob 9806\n2 . 5176\n", [ONE], 2, True)
        self.check_read(lines(stated(ONE), stated(FIVE), stated(THREE)), [ONE, FIVE, THREE], 3)
        self.check_read(lines(stated(ONE), stated(FIVE), taken(ONE), stated(ONE)), [FIVE, ONE], 4)
        self.check_read(lines(stated(ONE), taken(ONE), stated(ONE), taken(ONE), "."), [], 5, True)
        self.check_read(lines("."), [], 1, True)
        self.check_read("", [], 0)

    def test_several_persons(self):
        logs = {"bob": lines(stated(TWO), stated(FOUR), taken(TWO), stated(TWO)), "zed": lines("."), "eve": "no line\n",
                "ann": lines(stated(FIVE), stated(ONE), ".")}
        view = View(logs)
        self.check_view(view, [FIVE, ONE, FOUR, TWO], {"ann": 3, "bob": 4, "eve": 0, "zed": 1}, ["ann", "zed"])
        self.same(view.logs, {person: logs[person] for person in ("ann", "bob", "zed")})
        self.assertEqual(list(view.logs), ["ann", "bob", "zed"])

    def test_what_halls_write(self):
        hall = LoggedHall(Book(TWO, ONE, THREE), closed=["cy"])
        hall.state(FIVE)
        hall.take_back(ONE, TWO)
        hall.undo(2)
        hall.redo()
        view = View(hall.logs)
        self.assertEqual({one.text for one in view.book.statements}, {one.text for one in hall.book.statements})
        self.same(view.logs, hall.logs)
        self.same(view.closed, ("cy",))

    def test_lines_that_are_not_whole(self):
        text = lines(stated(ONE), stated(FIVE), stated(THREE))
        self.check_read(text[:-1], [ONE, FIVE], 2)
        first = text.index("\n") + 1
        for end in range(len(text) + 1):
            count = text[:end].count("\n")
            self.check_read(text[:end], [ONE, FIVE, THREE][:count], count)
        self.check_read(text[:first] + "\n" + text[first:], [ONE], 1)
        self.check_read("\n" + text, [], 0)

    def test_lines_of_another_form(self):
        one, other = lines(stated(ONE)), lines(stated(ONE), stated(FIVE))
        second = other[len(one):-1]
        number, sign, rest = second.split(" ", 2)
        body, total = rest.rsplit(" ", 1)
        self.check_read(other, [ONE, FIVE], 2)
        for line in (f"1 {sign} {body} {total}", f"3 {sign} {body} {total}", f"02 {sign} {body} {total}",
                     f"2 - {body} {total}", f"2 * {body} {total}", f"2 {body} {total}", f"2  {sign} {body} {total}",
                     f"2 {sign} {body}  {total}", f"2 {sign} {body} {total} ", f" 2 {sign} {body} {total}",
                     f"2 {sign} {body} 0{total}", f"2 {sign} {body} {int(total) + 1}", f"2 {sign} {body} -{total}",
                     f"2 {sign} {body} {int(total) + 9973}", f"2 {sign} {body}", f"2 {sign}", "2", "", " ", "2 .", "2 . 0",
                     f"2 {sign} {body} x {total}", f"+ {sign} {body} {total}", second.upper(), "+", "2 + ", "2 +", "2 - "):
            self.check_read(f"{one}{line}\n", [ONE], 1)
            self.check_read(f"{one}{line}\n{second}\n", [ONE], 1)

    def test_statements_that_cannot_stand(self):
        for row in (stated(ONE), taken(FIVE), stated(TWO), taken(TWO), "+ ann x", "+ ann x = bob @ 9 3", "- ann", "+ zz = a",
                    f"+ ann x = bob @ 0 {LIMIT}", "+ ann z = bob ", "+  ann z = bob", "+ann z = bob", ". .", ".. ", "+ ann z = Bob",
                    "* ann z = bob", "+ ann > bob", "+ ann > 0 / bob : 0 1"):
            self.check_read(lines(stated(ONE), row, stated(FIVE)), [ONE], 1)
        self.check_read(lines(taken(ONE)), [], 0)
        self.check_read(lines(stated(ONE), taken(ONE), taken(ONE), stated(FIVE)), [], 2)
        self.check_read(lines(stated(ONE), stated(FIVE)), [], 0, person="bob")

    def test_nothing_is_read_behind_a_closing_line(self):
        self.check_read(lines(stated(ONE), ".", stated(FIVE)), [ONE], 2, True)
        self.check_read(lines(".", "."), [], 1, True)
        self.check_read(lines(stated(ONE), ".") + "garbage", [ONE], 2, True)

    def test_other_values(self):
        for value in [*samples.ANY_VALUES, {"Ann": ""}, {"ann": None}, {"ann": ["1"]}, {1: ""}, {None: ""}, {("ann",): ""},
                      {"ann": "", "bob": 1}, {"": ""}, {"abcdefghi": ""}, [("ann", "")], (("ann", ""),), "ann"]:
            if value != {}:
                self.check_error(InvalidLogs, {"value": value}, lambda: View(value))
        self.check_view(View({}), [], {})

    def test_any_strings(self):
        for text in ["a" * 5000, " ", "\n" * 500, "1 + " * 300 + "\n", "1 . 1\n", "~!@\n", "1", "1 ", "1 .", "1 + ann x = bob 9806"]:
            self.check_read(text, [], 0)

    def test_too_many(self):
        logs = {"ann": lines(*[stated(one) for one in MANY[:24]])}
        self.same(len(View(logs).book), 24)
        self.check_error(TooMany, {"limit": 24}, lambda: View({**logs, "bob": lines(stated(TWO))}))
        self.check_error(TooMany, {"limit": 24}, lambda: View({"ann": lines(*[stated(one) for one in MANY])}))
        rows = [*[stated(one) for one in MANY], *[taken(one) for one in MANY[:3]]]
        self.check_read(lines(*rows), MANY[3:], 29)

    def test_new_dicts_and_copies(self):
        logs = {"ann": lines(stated(ONE)), "bob": "x"}
        view = View(logs)
        logs.clear()
        view.lines.clear()
        view.logs["zed"] = "more"
        self.check_view(view, [ONE], {"ann": 1, "bob": 0})
        self.same(view.logs, {"ann": lines(stated(ONE))})

    def test_equal(self):
        one = lines(stated(ONE))
        self.assertIs(View({"ann": one}) == View({"ann": one + "more", "bob": ""}), True)
        self.assertIs(View({"ann": one}) != View({"ann": one}), False)
        self.assertIs(View({}) == View({"ann": "x"}), True)
        self.assertIs(View({"ann": one}) == View({"ann": lines(stated(ONE), ".")}), False)
        self.assertIs(View({"ann": one}) == View({"ann": lines(stated(ONE), stated(FIVE), taken(FIVE))}), False)
        for value in [*samples.ANY_VALUES, {"ann": one}]:
            self.assertIs(View({"ann": one}) == value, False)
            self.assertIs(View({}) == value, False)


class Joining(ViewCase):
    def test_fork(self):
        one = View({"ann": lines(stated(ONE), stated(FIVE)), "bob": lines(stated(TWO)), "cy": lines(".")})
        for other, expected in (
                (one, None), (View({}), None), (View({"ann": lines(stated(ONE))}), None), (View({"zed": lines(".")}), None),
                (View({"ann": lines(stated(ONE), stated(FIVE), ".")}), None),
                (View({"ann": lines(stated(ONE), stated(THREE))}), ("ann", 2)),
                (View({"ann": lines(stated(ONE), ".")}), ("ann", 2)), (View({"ann": lines(stated(FIVE))}), ("ann", 1)),
                (View({"cy": lines(stated(Naming("cy", "x", ("ann",)))), "bob": lines(stated(FOUR), ".")}), ("bob", 1)),
                (View({"ann": lines(stated(ONE)) + "x\n", "cy": lines(stated(Naming("cy", "x", ("ann",))))}), ("cy", 1))):
            self.same(fork(one, other), expected)
            self.same(fork(one=other, other=one), expected)

    def test_joined(self):
        long = lines(stated(ONE), stated(FIVE), ".")
        one = View({"ann": lines(stated(ONE), stated(FIVE)), "bob": lines(stated(TWO)), "eve": "nothing"})
        other = View({"ann": long, "cy": lines("."), "fay": ""})
        for both in (joined(one, other), joined(other, one), joined(one=one, other=other)):
            self.assertIsInstance(both, View)
            self.check_view(both, [ONE, FIVE, TWO], {"ann": 3, "bob": 1, "cy": 1, "eve": 0, "fay": 0}, ["ann", "cy"])
            self.same(both.logs, {"ann": long, "bob": lines(stated(TWO)), "cy": lines(".")})
        self.assertEqual(joined(one, one), one)
        self.check_view(joined(View({}), View({"zed": "x"})), [], {"zed": 0})

    def test_errors(self):
        one = View({"ann": lines(stated(ONE), stated(FIVE))})
        other = View({"ann": lines(stated(ONE), stated(THREE))})
        for views in ((one, other), (other, one)):
            self.check_error(Forked, {"word": "ann", "line": 2}, lambda: joined(*views))
        many = View({"ann": lines(*[stated(naming) for naming in MANY[:24]])})
        bobs = View({"bob": lines(stated(TWO))})
        for views in ((many, bobs), (bobs, many)):
            self.check_error(TooMany, {"limit": 24}, lambda: joined(*views))
        forked = View({"ann": lines(stated(MANY[1])), "bob": lines(stated(TWO))})
        self.check_error(Forked, {"word": "ann", "line": 1}, lambda: joined(many, forked))


class Knowing(ViewCase):
    def random_view(self, source, closed, many=8):
        book = oracles.random_book(source, many, days=[None, (0, 4), (3, 9)])
        rows = {person: [stated(one) for one in book.statements if one.person == person] for person in ("ann", "bob", "cy")}
        return View({person: lines(*rows[person], *(["."] if person in closed else [])) for person in rows})

    def asked(self, seed, many):
        source = random.Random(seed)
        for _ in range(many):
            for closed in ((), ("ann",), ("ann", "cy"), ("ann", "bob", "cy")):
                view = self.random_view(source, closed)
                for chain, person, day in itertools.product(
                        (("ann", "x"), ("bob", "y"), ("ann", "x", "y"), ("cy",), ("zed", "x")), ("ann", "cy", "zed"), (3, LIMIT)):
                    yield view, chain, person, day

    def test_sure_and_thinkable(self):
        found = {}
        for view, chain, person, day in self.asked(151, 20):
            today = view.book.on(day)
            is_certain = person in oracles.meant(
                [rule for rule in oracles.rules_on(view.book, day) if rule[0] in view.closed], chain)
            self.assertIs(is_sure(view, chain, person, day), is_certain)
            self.assertIs(is_sure(view=view, chain=chain, person=person, day=day), is_certain)
            self.assertEqual(person in sure(today, chain, view.closed), is_certain)
            can_be = can_come(today, chain, person, list(view.closed), kept=False) is not None
            self.assertIs(is_thinkable(view, chain, person, day), can_be)
            self.assertIs(is_thinkable(view=view, chain=chain, person=person, day=day), can_be)
            found[is_certain, can_be] = True
        self.assertEqual(sorted(found), [(False, False), (False, True), (True, True)])

    def test_by_hand(self):
        logs = {"ann": lines(stated(ONE), "."), "bob": lines(stated(TWO))}
        view = View(logs)
        self.same([is_sure(view, ("ann", "x"), "bob", day) for day in (0, LIMIT)], [True, True])
        self.same([is_thinkable(view, ("ann", "x"), person, 0) for person in ("bob", "cy")], [True, False])
        self.same([is_sure(view, ("ann", "x", "x"), "cy", 5), is_thinkable(view, ("ann", "x", "x"), "zed", 5)], [False, True])
        self.same(enough(view, ("ann", "x", "x"), "cy", 5), ("bob",))
        self.same(enough(view=view, chain=("ann", "x"), person="bob", day=5), ())
        self.assertIsNone(enough(view, ("ann", "x", "x"), "cy", 2))
        closed = View({**logs, "bob": lines(stated(TWO), ".")})
        self.same([is_sure(closed, ("ann", "x", "x"), "cy", day) for day in (2, 3, 9, 10)], [False, True, True, False])
        self.same([is_thinkable(closed, ("ann", "x", "x"), person, 2) for person in ("cy", "zed")], [False, False])
        self.assertIsNone(enough(closed, ("ann", "x", "x"), "cy", 2))
        self.same(enough(View({}), ("ann",), "ann", 0), ())
        self.assertIsNone(enough(View({}), ("ann",), "bob", 0))

    def test_enough_against_all_sets(self):
        found = {}
        for view, chain, person, day in self.asked(152, 25):
            others = [one for one in view.book.persons if one not in view.closed]

            def is_one(some):
                return person in sure(view.book.on(day), chain, [*view.closed, *some])

            expected = right_oracles.least_of(others, 3, is_one)
            self.same(enough(view, chain, person, day), expected[0] if expected else None)
            found[len(expected[0]) if expected else None] = True
        self.assertLessEqual({None, 0, 1, 2}, set(found))

    def test_enough_of_three(self):
        names = "abcde"
        rows = {name: lines(stated(Naming(name, "x", (further, "x")))) for name, further in zip(names, names[1:])}
        rows["e"] = lines(stated(Naming("e", "x", ("zed",))))
        view = View(rows)
        self.same(enough(view, ("c", "x"), "zed", 0), ("c", "d", "e"))
        self.assertIsNone(enough(view, ("b", "x"), "zed", 0))
        shut = View({**rows, "d": lines(stated(Naming("d", "x", ("e", "x"))), ".")})
        self.same(enough(shut, ("b", "x"), "zed", 0), ("b", "c", "e"))
        wide = View({"m": lines(stated(Naming("m", "x", ("c",))), stated(Naming("m", "x", ("b",)))),
                     "b": lines(stated(Naming("b", "x", ("zed",)))), "c": lines(stated(Naming("c", "x", ("zed",))))})
        self.same(enough(wide, ("m", "x", "x"), "zed", 0), ("b", "m"))

    def test_leaves_do_not_matter(self):
        view = View({"ann": lines(stated(Leave("ann", ("bob",), (0, 1))))})
        self.assertIsNone(enough(view, ("ann", "x"), "bob", 0))
        self.same([is_sure(view, ("ann", "x"), "bob", 0), is_thinkable(view, ("ann", "x"), "bob", 0)], [False, True])
