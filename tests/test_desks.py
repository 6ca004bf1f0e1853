"""[94]: desks; [2] as far as it speaks of them."""

import itertools

from namechains.areas import area
from namechains.books import Book
from namechains.desks import Desk
from namechains.errors import (
    InvalidLine, InvalidRow, InvalidText, Missing, NotMeant, OutOfRange, Repeated, TooMany)
from namechains.futures import parted
from namechains.halls import Hall
from namechains.limits import LIMIT
from namechains.meaning import means
from namechains.rewriting import comes_of, meanings, names_of
from namechains.rights import least_groups, may
from namechains.texts import read_statement, write_book, write_names
from namechains.ways import steps
from tests import oracles, samples
from tests.cases import PlainCase

FRIENDS = ["ann friend = bob", "ann friend = bob friend", "bob friend = cleo @ 3 9"]
DOCTORS = ["ann > ann doctor : 10 20 @ 0 9 + 1", "ann doctor = bob", "ann doctor = cy @ 5 9", "bob > dan : 15 30",
           "eve > 2 / ann doctor / dan / cy : 0 5"]
TEN = " ".join(["ann", *["x"] * 9])
EIGHT = " ".join(["ann", *["x"] * 8])

# Rows of every kind but those to load and to try; none of them raises an error in the hall of DOCTORS behind two changes.
ROWS = ["state fay x = bob", "take ann doctor = bob", "undo", "undo 2", "redo", "redo 0", "book", "means 5 ann doctor",
        "is 5 ann doctor : cy", "comes 5 ann doctor : cy", "chains 5 ann doctor", "names 5 cy", "count 5 1 ann doctor",
        "within 5 ann doctor : bob", "within 5 ann doctor : cy ! ann bob", "steps 5 ann doctor : cy",
        "may 5 12 ann : cy dan", "groups 5 16 3 ann", "area ann : dan"]


class DeskCase(PlainCase):
    def desk(self, *lines):
        desk = Desk()
        self.same(desk.say("load\n" + "\n".join(lines)), "ok")
        return desk

    def state_of(self, desk):
        hall = desk.hall
        return (hall, hall.book, hall.moment, hall.undone, hall.depth)

    def check_error(self, desk, row, error, **fields):
        """The row raises this error, and the hall stays as it was."""
        before = self.state_of(desk)
        with self.assertRaises(error) as caught:
            desk.say(row)
        self.assertIs(type(caught.exception), error)
        for name, value in fields.items():
            self.same(getattr(caught.exception, name), value)
        self.assertEqual(self.state_of(desk), before)

    def check_invalid(self, desk, row):
        before = self.state_of(desk)
        with self.assertRaises(InvalidRow) as caught:
            desk.say(row)
        self.assertIs(type(caught.exception), InvalidRow)
        self.assertIs(caught.exception.row, row)
        self.assertEqual(self.state_of(desk), before)


class Halls(DeskCase):
    def test_at_first(self):
        desk = Desk()
        self.assertIsInstance(desk.hall, Hall)
        self.assertEqual((desk.hall.book, desk.hall.moment, desk.hall.undone), (Book(), 0, 0))
        self.same(desk.say("book"), "-")

    def test_the_example(self):
        desk = Desk()
        rows = ["load\n" + "\n".join(FRIENDS), "means 5 ann friend", "means 2 ann friend"]
        self.same([desk.say(row) for row in rows], ["ok", "bob cleo", "bob"])
        self.same(desk.say(row="book"), "\n".join(FRIENDS))

    def test_changes(self):
        desk = Desk()
        for text in DOCTORS:
            self.same(desk.say(f"state {text}"), "ok")
        self.same(desk.say("book"), "\n".join(DOCTORS))
        self.same(desk.say(f"take {DOCTORS[1]}"), "ok")
        self.same(desk.say("book"), "\n".join([DOCTORS[0], *DOCTORS[2:]]))
        self.same(desk.say("undo"), "ok")
        self.same(desk.say("undo 3"), "ok")
        self.same(desk.say("book"), "\n".join(DOCTORS[:2]))
        self.same((desk.hall.moment, desk.hall.undone), (2, 4))
        self.same(desk.say("redo 2"), "ok")
        self.same(desk.say("redo"), "ok")
        self.same(desk.say("redo 0"), "ok")
        self.same(desk.say("undo 0"), "ok")
        self.same((desk.hall.moment, desk.hall.undone), (5, 1))
        self.same(desk.say("undo 5"), "ok")
        self.same(desk.say("book"), "-")

    def test_the_errors_of_what_is_called(self):
        desk = self.desk(*DOCTORS)
        desk.say("state fay x = bob")
        desk.say("undo")
        self.check_error(desk, f"state {DOCTORS[2]}", Repeated, index=0)
        self.check_error(desk, "take fay x = bob", Missing, index=0)
        self.check_error(desk, "undo 1", OutOfRange, value=1)
        self.check_error(desk, "undo", OutOfRange, value=1)
        self.check_error(desk, "redo 2", OutOfRange, value=2)
        self.check_error(desk, f"redo {LIMIT}", OutOfRange, value=LIMIT)
        self.check_error(desk, "steps 0 ann doctor : cy", NotMeant, word="cy")
        for letter in "abcdefghijklmnopqrs":
            desk.say(f"state ann {letter} = bob")
        self.check_error(desk, "state ann x = bob", TooMany, limit=24)

    def test_load(self):
        desk = self.desk(*FRIENDS)
        hall = desk.hall
        desk.say("state ann x = bob")
        for row, line, index in (("load\nann", 0, 1), (f"load\n{FRIENDS[0]}\n", 1, 0), ("load\n\n", 0, 0),
                                 (f"load\n{FRIENDS[0]}\nann x = bob\nann friend = bob", 2, 0), ("load\n ", 0, 0),
                                 ("load\nann x = bob @ 9 3", 0, 6)):
            self.check_error(desk, row, InvalidLine, line=line, index=index)
        self.assertIs(desk.hall, hall)
        self.same(desk.say("load\n"), "ok")
        self.assertIsNot(desk.hall, hall)
        self.assertEqual((desk.hall.book, desk.hall.moment, desk.hall.undone), (Book(), 0, 0))
        self.same(desk.say("load\n" + "\n".join(DOCTORS)), "ok")
        self.same(write_book(desk.hall.book), "\n".join(DOCTORS))
        many = [f"ann {letter} = bob" for letter in "abcdefghijklmnopqrstuvwxy"]
        self.check_error(desk, "load\n" + "\n".join(many), InvalidLine, line=24, index=0)


class Answers(DeskCase):
    def test_questions_about_chains(self):
        desk = self.desk(*FRIENDS)
        for number in (0, 3, 9, 10, LIMIT):
            day = desk.hall.book.on(number)
            for chain in (("ann", "friend"), ("ann", "friend", "friend"), ("zed",), ("zed", "x"), ("bob",)):
                text = " ".join(chain)
                self.same(desk.say(f"means {number} {text}"), " ".join(means(day, chain)) or "-")
                self.same(desk.say(f"chains {number} {text}"), write_names(meanings(day, chain)))
                for person in ("bob", "cleo", "zed"):
                    is_meant = person in means(day, chain)
                    self.same(desk.say(f"is {number} {text} : {person}"), "yes" if is_meant else "no")
                    if is_meant:
                        self.same(desk.say(f"steps {number} {text} : {person}"), str(steps(day, chain, person)))
                for other in (("bob",), ("bob", "friend"), ("zed", "x")):
                    answer = "yes" if comes_of(day, chain, other) else "no"
                    self.same(desk.say(f"comes {number} {text} : {' '.join(other)}"), answer)
                    for closed in ([], ["ann"], ["ann", "bob"]):
                        apart = parted(day, chain, other, closed)
                        ending = f" ! {' '.join(closed)}" if closed else ""
                        answer = "yes" if apart is None else f"no {' '.join(apart[0])}"
                        self.same(desk.say(f"within {number} {text} : {' '.join(other)}{ending}"), answer)
                for names in (0, 1, 2, 300):
                    self.same(desk.say(f"count {number} {names} {text}"), str(meanings(day, chain).count(names)))
            for person in ("ann", "cleo", "zed"):
                self.same(desk.say(f"names {number} {person}"), write_names(names_of(day, person)))

    def test_answers_by_hand(self):
        desk = self.desk(*FRIENDS)
        for row, answer in (("means 0 zed x", "-"), ("is 5 ann friend : cleo", "yes"), ("is 10 ann friend : cleo", "no"),
                            ("comes 10 ann friend : bob friend", "yes"), ("comes 10 bob friend : ann friend", "no"),
                            ("chains 10 ann friend", "out ann>1 bob>2\nout friend>3\nin friend>3\nin"), ("names 10 ann", "out ann>1\nin"),
                            ("count 5 0 ann friend", "2"), ("count 5 9 ann friend", "0"), ("within 5 bob friend : ann friend", "yes"),
                            ("within 5 ann friend : bob", "no ann friend"), ("within 5 ann friend : bob ! ann bob", "no cleo"),
                            ("steps 5 ann : ann", "0"), ("steps 5 ann friend : cleo", "2")):
            self.same(desk.say(row), answer)

    def test_questions_about_rights(self):
        desk = self.desk(*DOCTORS)
        book = desk.hall.book
        for number, tag in itertools.product((0, 5, 9, LIMIT), (0, 10, 15, 21, LIMIT)):
            for owner in ("ann", "eve", "zed"):
                for group in (["cy"], ["cy", "dan"], ["ann", "bob", "c", "d", "e", "f", "g", "h"]):
                    answer = "yes" if may(book.on(number), owner, group, tag) else "no"
                    self.same(desk.say(f"may {number} {tag} {owner} : {' '.join(group)}"), answer)
                for most in (1, 2, 3):
                    groups = least_groups(book.on(number), owner, tag, most)
                    answer = " / ".join([" ".join(group) for group in groups]) or "-"
                    self.same(desk.say(f"groups {number} {tag} {most} {owner}"), answer)
        for owner, group in itertools.product(("ann", "eve", "zed"), (["cy"], ["cy", "dan"], ["zed"])):
            lines = [f"{first} {last} : {' '.join(f'{low} {high}' for low, high in tags)}"
                     for (first, last), tags in area(book, owner, group).rows]
            self.same(desk.say(f"area {owner} : {' '.join(group)}"), "\n".join(lines) or "-")

    def test_rights_by_hand(self):
        desk = self.desk(*DOCTORS)
        for row, answer in (("area ann : dan", "0 9 : 15 20"), ("area ann : eve", "-"), ("area zed : zed", f"0 {LIMIT} : 0 {LIMIT}"),
                            ("groups 7 16 3 ann", "bob / cy / dan"), ("groups 7 3 3 eve", "bob cy / bob dan / cy dan"),
                            ("groups 7 30 3 ann", "-"), ("may 7 12 ann : cy", "yes"), ("may 4 12 ann : cy", "no")):
            self.same(desk.say(row), answer)
        desk.say("state ann > dan : 3 4 @ 2 3")
        self.same(desk.say("area ann : dan"), "0 1 : 15 20\n2 3 : 3 4 15 20\n4 9 : 15 20")

    def test_the_greatest_numbers_and_groups(self):
        desk = self.desk(*FRIENDS)
        self.same(desk.say(f"means {LIMIT} {EIGHT}"), "-")
        self.same(desk.say(f"within 0 {EIGHT} : {EIGHT} ! a b c d e f g h"), "yes")
        self.same(desk.say(f"may 0 {LIMIT} ann : a b c d e f g h"), "no")


class Trials(DeskCase):
    def test_each_row(self):
        for row in ROWS:
            desk, other = self.desk(*DOCTORS), self.desk(*DOCTORS)
            for one in (desk, other):
                for change in ("state ann x = bob", "take ann x = bob", "state bob x = cy", "undo"):
                    one.say(change)
            before = self.state_of(desk)
            self.same(desk.say(f"try {row}"), other.say(row))
            self.assertEqual(self.state_of(desk), before)
            self.same(desk.say("redo"), "ok")
            self.same(desk.say("book"), "\n".join([*DOCTORS, "bob x = cy"]))

    def test_errors(self):
        desk = self.desk(*DOCTORS)
        desk.say("state ann x = bob")
        desk.say("undo")
        for row, error, fields in (
                (f"try state {DOCTORS[0]}", Repeated, {"index": 0}), ("try take ann x = bob", Missing, {"index": 0}),
                ("try undo", OutOfRange, {"value": 1}), ("try redo 2", OutOfRange, {"value": 2}),
                ("try steps 0 ann doctor : cy", NotMeant, {"word": "cy"})):
            self.check_error(desk, row, error, **fields)

    def test_rows_that_cannot_be_tried(self):
        desk = self.desk(*FRIENDS)
        for row in ("try", "try ", "try load\n", "try load\nann x = bob", "try load", "try try book", "try try", "try  book",
                    "try book ", "try no", "try state ann", "Try book", " try book", "try\nbook"):
            self.check_invalid(desk, row)


class WrongRows(DeskCase):
    def test_any_value(self):
        desk = self.desk(*FRIENDS)
        for value in [*samples.ANY_VALUES, ["book"], ("book",), {"book": "book"}, b"book"]:
            self.check_invalid(desk, value)

    def test_by_hand(self):
        desk = self.desk(*FRIENDS)
        above = LIMIT + 1
        for row in (
                "Book", "book ", " book", "book 1", "book\n", "load", "load ann x = bob", "loads\n", "load \n", "state", "state ",
                "state ann", "state ann x = bob ", "state  ann x = bob", "take", "take ann x = b c d e f g", "undo ", "undo x",
                "undo -1", "undo 01", "undo 1 1", f"undo {above}", f"redo {above}", "redo 1 ", "redo +1", "means", "means 5",
                "means ann", "means 5 ", "means 05 ann", f"means {above} ann", f"means 5 {TEN}", "means 5 Ann", "means 5 ann x\n",
                "means 5 ann : bob", "means 5 ann  x", "is 5 ann x", "is 5 ann x :", "is 5 ann x : bob cy", "is 5 : bob",
                "is 5 ann x bob", "is 5 ann x : Bob", f"is 5 {TEN} : bob", "is ann x : bob", "comes 5 ann x", "comes 5 ann x :",
                f"comes 5 ann x : {TEN}", "comes 5 ann : bob : cy", "chains ann", "chains 5", f"chains 5 {TEN}", "names 5",
                "names 5 ann x", "names ann", f"names {above} ann", "count 5 ann x", "count 5 301 ann x", "count 5 -1 ann x",
                "count 5 1", f"count 5 1 {TEN}", "count 5 001 ann", "within 5 ann x", "within 5 ann x : bob !",
                "within 5 ann x : bob ! bob ann", "within 5 ann x : bob ! ann ann", "within 5 ann x : bob ! a b c d e f g h i",
                "within 5 ann x : bob ! Ann", "within 5 ann x : bob ann ! ", "within 5 ann x : bob : ann", "steps 5 ann x",
                "steps 5 ann x : bob cy", "may 5 5 ann", "may 5 5 ann :", "may 5 ann : bob", "may 5 5 ann : cy bob",
                "may 5 5 ann : bob bob", "may 5 5 ann : a b c d e f g h i", "may 5 5 ann bob : cy", f"may 5 {above} ann : bob",
                f"may {above} 5 ann : bob", "may 5 5 ann : Bob", "groups 5 5 0 ann", "groups 5 5 4 ann", "groups 5 5 ann",
                "groups 5 5 1", "groups 5 5 1 ann bob", f"groups 5 {above} 1 ann", "groups 5 5 01 ann", "area ann", "area ann :",
                "area : bob", "area ann bob : cy", "area ann : cy bob", "area ann : a b c d e f g h i", "area ann : bob :",
                "may 5 5 abcdefghi : bob", "", " ", "\n", "say book", "means " + "9" * 9999 + " ann", "count 5 299 " + "x " * 999):
            with self.subTest(row[:50]):
                self.check_invalid(desk, row)
                self.check_invalid(desk, f"try {row}")

    def test_each_piece_left_out_doubled_or_changed(self):
        desk = self.desk(*DOCTORS)
        for change in ("state ann x = bob", "take ann x = bob", "state bob x = cy", "undo"):
            desk.say(change)
        found = {True: 0, False: 0}
        pieces = ["", "x", "X", ":", "!", "0", "3", "4", "300", "301", str(LIMIT), str(LIMIT + 1), "00", "zed", "book", "\n"]
        for row in ROWS:
            parts = row.split(" ")
            others = {" ".join(parts[:at] + put + parts[at + gone:]) for at in range(len(parts) + 1) for gone in (0, 1)
                      for put in ([], *[[piece] for piece in pieces])}
            for other in sorted(others):
                is_row = self.is_row(other)
                found[is_row] += 1
                if is_row:
                    try:
                        self.assertIs(type(desk.say(f"try {other}")), str)
                    except (Repeated, Missing, OutOfRange, NotMeant):
                        pass
                else:
                    self.check_invalid(desk, other)
        self.assertGreater(found[False], 1000)
        self.assertGreater(found[True], 200)

    def is_row(self, row):
        """Whether the row is one that may be tried, as the document lists them."""
        word, *parts = row.split(" ")
        if word in ("state", "take"):
            try:
                return bool(read_statement(" ".join(parts)))
            except InvalidText:
                return False
        kinds = {"undo": "[n]", "redo": "[n]", "book": "", "means": "n c", "is": "n c : p", "comes": "n c : c", "chains": "n c",
                 "names": "n p", "count": "n k c", "within": "n c : c [g]", "steps": "n c : p", "may": "n n p : g",
                 "groups": "n n m p", "area": "p : g"}
        return word in kinds and self.is_of(parts, kinds[word].split())

    def is_of(self, parts, kinds):
        if not kinds:
            return not parts
        kind, bounds = kinds[0], {"n": (0, LIMIT), "k": (0, 300), "m": (1, 3), "[n]": (0, LIMIT)}
        if kind in ("[n]", "[g]") and not parts:
            return True
        if kind in bounds:
            low, high = bounds[kind]
            return bool(parts) and parts[0].isdigit() and str(int(parts[0])) == parts[0] and (
                low <= int(parts[0]) <= high) and self.is_of(parts[1:], kinds[1:])
        if kind == "[g]":
            return parts[0] == "!" and self.is_of(parts[1:], ["g"])
        if kind == ":":
            return parts[:1] == [":"] and self.is_of(parts[1:], kinds[1:])
        most = {"p": 1, "c": 9, "g": 8}[kind]
        for many in range(1, most + 1):
            words = parts[:many]
            is_right = len(words) == many and all(map(oracles.is_word, words))
            if is_right and (kind != "g" or words == sorted(set(words))) and self.is_of(parts[many:], kinds[1:]):
                return True
        return False
