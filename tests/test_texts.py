"""[90] to [93]: the texts of statements, books and sets of chains; [2] as far as it speaks of them."""

import itertools
import random
import re

from namechains.books import Book
from namechains.errors import InvalidLine, InvalidText, NotLeast
from namechains.languages import Names
from namechains.limits import LIMIT
from namechains.rewriting import meanings
from namechains.statements import Leave, Naming
from namechains.texts import read_book, read_names, read_statement, write_book, write_names
from tests import right_oracles, samples, tables
from tests.cases import PlainCase

TEXTS = ["ann doctor = bob office", "ann doctor = cleo @ 3 9", "ann > 2 / bob friend / cleo / dan : 10 20 @ 0 7 + 1"]

WORDS = "[a-z]{1,8}"
NAMING = re.compile(f"({WORDS}) ({WORDS}) = ({WORDS}(?: {WORDS})*)(?: @ ([0-9]+) ([0-9]+))?")
LEAVE = re.compile(f"({WORDS}) > (?:([0-9]+) / )?({WORDS}(?: {WORDS}| /)*) : ([0-9]+) ([0-9]+)"
                   "(?: @ ([0-9]+) ([0-9]+))?(?: [+] ([0-9]+))?")


def stretch(first, last):
    return None if first is None else (int(first), int(last))


def statement_of(text):
    """The statement with exactly this text: made of what stands in it, and told only if its own text is this one."""
    naming, leave = NAMING.fullmatch(text), LEAVE.fullmatch(text)
    try:
        if naming:
            person, name, chain, *days = naming.groups()
            found = Naming(person, name, tuple(chain.split(" ")), stretch(*days))
        elif leave:
            person, many, chains, *numbers, times = leave.groups()
            subject = tuple(tuple(chain.split(" ")) for chain in chains.split(" / "))
            subject = subject[0] if many is None and len(subject) == 1 else (int(many), subject)
            found = Leave(person, subject, stretch(*numbers[:2]), stretch(*numbers[2:]), times and int(times))
        else:
            return None
    except (ValueError, TypeError):
        return None
    return found if found.text == text else None


# Ends of statements: wherever a text of a statement can be gone on with, one of these makes it a whole one.
WHOLE = ["zz zz = zz", f"zz > zz : 0 {LIMIT}", "zz > zz : 0 0", "zz > 4 / zz / zy / zx / zw zw : 0 0 + 0",
         f"zz zz = zz @ 5 {LIMIT}", "zz zz = zz @ 0 0", "zz zz = zz zz zz zz zz @ 0 1", f"zz > zz : 0 0 @ 3 {LIMIT}"]
ENDS = sorted({tuple(text.split(" ")[at:]) for text in WHOLE for at in range(14)} | {
    ("zu", *text.split(" ")[at:]) for text in WHOLE for at in range(14)})


def place_of_fault(text):
    """[91]: the first piece such that no text of a statement begins with the pieces up to it."""
    pieces = text.split(" ")
    for at in range(len(pieces)):
        if not any(statement_of(" ".join([*pieces[:at + 1], *end])) for end in ENDS):
            return at
    return len(pieces)


class TextCase(PlainCase):
    def check_fault(self, text, index):
        with self.assertRaises(InvalidText) as caught:
            read_statement(text)
        self.assertIs(type(caught.exception), InvalidText)
        self.same(caught.exception.index, index)

    def check_line(self, action, line, index):
        with self.assertRaises(InvalidLine) as caught:
            action()
        self.assertIs(type(caught.exception), InvalidLine)
        self.same((caught.exception.line, caught.exception.index), (line, index))


class Statements(TextCase):
    def test_the_texts_of_the_document(self):
        for text in TEXTS:
            self.same(read_statement(text).text, text)
        self.assertEqual(read_statement(TEXTS[0]), Naming("ann", "doctor", ("bob", "office")))
        self.assertEqual(read_statement(TEXTS[1]), Naming("ann", "doctor", ("cleo",), (3, 9)))
        self.assertEqual(read_statement(text=TEXTS[2]), Leave(
            "ann", (2, (("bob", "friend"), ("cleo",), ("dan",))), (10, 20), (0, 7), 1))

    def test_each_text_is_read_again(self):
        statements = [Naming("ann", "x", chain, days) for chain in samples.RIGHT_CHAINS
                      for days in [None, *samples.RIGHT_STRETCHES]]
        statements += [Leave("ann", subject, tags, days, times) for subject in samples.RIGHT_SUBJECTS
                       for tags in samples.RIGHT_STRETCHES for days, times in ((None, None), ((0, 0), 0), ((0, LIMIT), 9))]
        for statement in statements:
            found = read_statement(statement.text)
            self.assertEqual(found, statement)
            self.assertIs(type(found), type(statement))

    def test_faults_by_hand(self):
        for text, index in (
                ("", 0), (" ", 0), ("ann", 1), ("ann ", 1), ("Ann x = bob", 0), ("ann x", 2), ("ann x =", 3), ("ann = bob", 1),
                ("ann x = bob ", 4), ("ann  x = bob", 1), (" ann x = bob", 0), ("ann x = bob\n", 3), ("ann x = b c d e f g", 8),
                ("ann x = b c d e f g @ 0 1", 8), ("ann x = bob @", 5), ("ann x = bob @ 3", 6), ("ann x = bob @ 3 2", 6),
                ("ann x = bob @ 03 9", 5), ("ann x = bob @ 3 09", 6), ("ann x = bob @ -1 9", 5), ("ann x = bob @ 3 9 9", 7),
                (f"ann x = bob @ 0 {LIMIT}", 6), (f"ann x = bob @ 1 {LIMIT + 1}", 6), (f"ann x = bob @ {LIMIT + 1} 1", 5),
                ("ann x = bob + 1", 4), ("ann x = bob @ 3 9 + 1", 7), ("ann x = bob : 0 1", 4), ("ann x > bob", 2),
                ("ann >", 2), ("ann > bob", 3), ("ann > bob :", 4), ("ann > bob : 1", 5), ("ann > bob : 1 0", 5),
                ("ann > bob @ 0 1", 3), ("ann > bob / cy : 0 1", 3), ("ann > 1", 3), ("ann > 1 bob : 0 1", 3),
                ("ann > 0 / bob : 0 1", 2), ("ann > 5 / bob : 0 1", 2), ("ann > 01 / bob : 0 1", 2), ("ann > 1 /", 4),
                ("ann > 2 / bob : 0 1", 5), ("ann > 2 / bob", 5), ("ann > 2 / bob + 1", 5), ("ann > 1 / bob : 0 1 + 10", 9),
                ("ann > 1 / bob : 0 1 + 01", 9), ("ann > 1 / bob : 0 1 + 9 + 9", 10), ("ann > 1 / bob : 0 1 +", 9),
                ("ann > 1 / bob : 0 1 + 9 @ 0 1", 10), (f"ann > bob : 0 {LIMIT + 1}", 5), (f"ann > bob : {LIMIT} 0", 5),
                ("ann > 4 / a / b / c / d / e : 0 1", 11), ("ann > 4 / a / b / c : 0 1", 9), ("ann > 2 / a / a : 0 1", 7),
                ("ann > 1 / a / a / b : 0 1", 7), ("ann > 1 / a / a", 7), ("ann > 1 / a b / a b : 0 1", 9),
                ("ann > 1 / a b c d e / a b c d e : 0 1", 14), ("ann > 1 / a b c d e / a b c d f g : 0 1", 15),
                ("ann > 1 / a b c d e / a b c d : 0 1 @ 0 0 + 10", 21), ("ann > 1 / a / a b / a b c / a b : 0 1", 15),
                ("=", 0), ("ann x = = bob", 3), ("ann x == bob", 2), ("ann x = abcdefghi", 3), ("abcdefghi x = bob", 0),
                ("a" * 9999, 0), ("ann x = " + "b " * 5000, 8), ("ann x = bob @ " + "9" * 9999, 5)):
            with self.subTest(text[:60]):
                self.check_fault(text, index)
                if len(text) < 200:
                    self.assertEqual(place_of_fault(text), index)

    def test_each_piece_left_out_doubled_or_changed(self):
        pieces = ["", "x", "X", "=", ">", ":", "/", "@", "+", "0", "1", "2", "4", "5", "9", "10", "00", "a", "b\n", str(LIMIT),
                  str(LIMIT + 1)]
        texts = ["ann x = a b", "ann x = a b c d e @ 0 9", "ann > a b : 0 1 @ 5 9 + 2", "ann > 1 / a / a b / b : 2 4",
                 "ann > 2 / a b c d e / a b c d : 0 0 @ 0 1", f"ann > 4 / a / b / c / d : 0 {LIMIT} + 0"]
        found = {True: 0, False: 0}
        for text in texts:
            row = text.split(" ")
            others = [row[:at] + put + row[at + gone:] for at in range(len(row) + 1) for gone in (0, 1)
                      for put in ([], *[[piece] for piece in pieces])] + [row[:at] for at in range(len(row))]
            for other in {" ".join(one) for one in others}:
                statement = statement_of(other)
                if statement is None:
                    self.check_fault(other, place_of_fault(other))
                else:
                    self.assertEqual(read_statement(other), statement)
                found[statement is None] += 1
        self.assertGreater(found[True], 1000)
        self.assertGreater(found[False], 100)

    def test_any_value(self):
        for value in samples.ANY_VALUES:
            if not isinstance(value, str):
                self.check_fault(value, 0)


class Books(TextCase):
    def test_books(self):
        for statements in ([], [read_statement(text) for text in TEXTS], [Naming("ann", "x", ("ann",))]):
            book = Book(*statements)
            text = "\n".join([one.text for one in statements])
            self.same(write_book(book), text)
            self.same(write_book(book=book), text)
            self.assertEqual(read_book(text), book)
            self.assertEqual(read_book(text=text), book)

    def test_random_books(self):
        source = random.Random(121)
        for _ in range(100):
            book = right_oracles.random_book(source, source.randint(0, 24))
            self.assertEqual(read_book(write_book(book)), book)
            self.assertEqual(write_book(read_book(write_book(book))), write_book(book))

    def test_twenty_four_statements(self):
        lines = [f"ann {letter} = bob" for letter in "abcdefghijklmnopqrstuvwxy"]
        self.assertEqual(len(read_book("\n".join(lines[:24]))), 24)
        self.check_line(lambda: read_book("\n".join(lines)), 24, 0)
        self.check_line(lambda: read_book("\n".join([*lines[:24], lines[0]])), 24, 0)
        self.check_line(lambda: read_book("\n".join([*lines[:24], "ann x ="])), 24, 0)
        self.check_line(lambda: read_book("\n".join([*lines[:24], "", ""])), 24, 0)
        self.check_line(lambda: read_book("\n".join([*lines[:23], "ann x =", "ann"])), 23, 3)
        self.check_line(lambda: read_book("\n".join([*lines[:23], lines[4], "ann"])), 23, 0)

    def test_lines_that_cannot_stand(self):
        one, other = TEXTS[:2]
        for text, line, index in (
                (f"\n{one}", 0, 0), (f"{one}\n", 1, 0), ("\n", 0, 0), (f"{one}\n\n{other}", 1, 0), (f"{one}\n{one}", 1, 0),
                (f"{one}\n{other}\n{one}", 2, 0), (f"{one}\nann x = b c d e f g", 1, 8), (f"{one}\nann x\n{one}", 1, 2),
                (f"{one} \n{other}", 0, 5), (f"{one}\r\n{other}", 0, 4), ("ann", 0, 1), (" ", 0, 0),
                (f"{one}\nann x = b @ 9 3", 1, 6), (f"{one}\n ann x = b", 1, 0)):
            self.check_line(lambda: read_book(text), line, index)

    def test_any_value(self):
        for value in samples.ANY_VALUES:
            if not isinstance(value, str):
                self.check_line(lambda: read_book(value), 0, 0)
                self.check_line(lambda: read_names(value), 0, 0)


class Sets(TextCase):
    def test_the_example(self):
        names = Names(("ann",), ("bob", "x"))
        text = "out ann>1 bob>2\nin\nout x>1"
        self.same(write_names(names), text)
        self.same(write_names(names=names), text)
        self.assertEqual(read_names(text), names)
        self.assertEqual(read_names(text=text), names)
        self.assertIsInstance(read_names(text), Names)

    def test_the_set_without_chains(self):
        self.same(write_names(Names()), "out")
        self.assertEqual(read_names("out"), Names())

    def test_finite_and_infinite_sets(self):
        source = random.Random(122)
        day = Book(Naming("ann", "x", ("bob", "y")), Naming("bob", "y", ("bob", "y", "y")), Naming("bob", "y", ("cy",))).on(0)
        sets = [Names.of_table(tables.random_table(source, source.randint(1, 6))) for _ in range(80)]
        for names in [meanings(day, ("ann", "x")), *sets]:
            lines = [" ".join(["in" if is_in else "out", *[f"{word}>{lead}" for word, lead in moves]])
                     for is_in, moves in names.table]
            self.same(write_names(names), "\n".join(lines))
            self.assertEqual(read_names("\n".join(lines)), names)

    def test_more_than_sixty_lines(self):
        one, other = Names.of_table(tables.ring(59, (58,))), Names.of_table(tables.ring(7, (6,)))
        both = one & other
        self.assertEqual(len(both.table), 59 * 7 + 1)
        self.assertEqual(read_names(write_names(both)), both)
        text = "\n".join(["out"] + ["in"] * 70)
        with self.assertRaises(NotLeast):
            read_names(text)

    def test_lines_that_have_not_the_form(self):
        for text, line, index in (
                ("", 0, 0), ("In", 0, 0), ("out ", 0, 1), (" out", 0, 0), ("out\n", 1, 0), ("\nout", 0, 0), ("out\n\nin", 1, 0),
                ("out ann", 0, 1), ("out ann>", 0, 1), ("out >1\nin", 0, 1), ("out ann>2\nin", 0, 1), ("out ann>01\nin", 0, 1),
                ("out ann>-1\nin", 0, 1), ("out ann>1>1\nin", 0, 1), ("out ann>1  bob>1\nin", 0, 2), ("out Ann>1\nin", 0, 1),
                ("out bob>1 ann>1\nin", 0, 2), ("out ann>1 ann>1\nin", 0, 2), ("out ann>1 bob>1\nin ann>1 an>1", 1, 2),
                ("out ann>1\nin x>1 y>7", 1, 2), ("out ann>1\nmaybe", 1, 0), ("in ann>x\nIn", 0, 1), ("out abcdefghi>1\nin", 0, 1),
                ("out ann>" + "1" * 9999 + "\nin", 0, 1), ("out ann>+1\nin", 0, 1), ("out ann>1\nin x>1 ", 1, 2), ("out in", 0, 1)):
            with self.subTest(text[:40]):
                self.check_line(lambda: read_names(text), line, index)

    def check_not_least(self, text):
        with self.assertRaises(NotLeast) as caught:
            read_names(text)
        self.assertIs(type(caught.exception), NotLeast)

    def test_not_least(self):
        for text in ("in", "in ann>0", "out ann>0", "out ann>1\nout", "out ann>1 bob>2\nin\nin", "out\nin", "out\nout",
                     "out ann>2 bob>1\nin x>1\nin", "out ann>1\nin x>2\nin x>1", "out ann>1\nin\nin", "out ann>1\nin x>0",
                     "out ann>2\nin\nin", "in ann>1\nin", "out ann>1\nout x>1"):
            with self.subTest(text):
                expected = {"out ann>1\nin x>0"}
                if text in expected:
                    self.assertEqual(write_names(read_names(text)), text)
                else:
                    self.check_not_least(text)

    def test_texts_of_all_small_tables(self):
        found = {True: 0, False: 0}
        rows = [" ".join([first, *moves]) for first in ("in", "out") for moves in (
            [], ["a>0"], ["a>1"], ["b>1"], ["a>1", "b>0"], ["a>0", "b>1"], ["a>1", "b>1"])]
        for lines in itertools.product(rows, repeat=2):
            table = tuple([(line[:2] == "in", tuple([(piece[0], int(piece[2])) for piece in line.split(" ")[1:]]))
                           for line in lines])
            is_least = not table[0][0] and tables.least(table) == table
            if is_least:
                self.assertEqual(read_names("\n".join(lines)).table, table)
            else:
                self.check_not_least("\n".join(lines))
            found[is_least] += 1
        self.assertGreater(min(found.values()), 10)
