"""[70] to [72]: areas, of what groups may do, too; [2], [3] as far as they speak of them."""

import itertools
import random

from namechains.areas import Area, area, pass_area, unlike, unlike_group
from namechains.books import Book
from namechains.errors import InvalidPart
from namechains.limits import LIMIT
from namechains.rights import may, passes_of
from namechains.statements import Leave, Naming
from tests import oracles, right_oracles, samples
from tests.cases import PlainCase
from tests.test_rights import BOOK, GROUPS, books, leave

ALL = (0, LIMIT)
EDGES = (0, 1, 2, LIMIT - 2, LIMIT - 1, LIMIT)
GRID = list(itertools.product(range(8), repeat=2))
AREAS = [Area(), Area(((1, 2), (3, 3))), Area(((1, 2), (3, 3)), ((2, 5), (0, 4))), Area(((0, 7), (0, 7))), Area.whole(),
         Area(((3, LIMIT), (2, LIMIT)), ((0, 1), (5, 5))), Area(((4, 4), (4, 4)), ((6, 6), (4, 4)), ((5, 5), (4, 6)))]


def small_parts(source, many):
    rows = [sorted([source.randrange(8), source.randrange(8)]) for _ in range(2 * many)]
    return [(tuple(rows[at]), tuple(rows[at + 1])) for at in range(0, 2 * many, 2)]


def rows_of(pairs):
    """The rows of pairs of small days and tags, worked out in the plainest way."""
    def stretches(numbers):
        found = []
        for number in sorted(numbers):
            begun = found.pop()[0] if found and found[-1][1] == number - 1 else number
            found.append((begun, number))
        return tuple(found)

    rows = []
    for day in sorted({day for day, _ in pairs}):
        tags = stretches([tag for other, tag in pairs if other == day])
        begun = rows.pop()[0][0] if rows and rows[-1][0][1] == day - 1 and rows[-1][1] == tags else day
        rows.append(((begun, day), tags))
    return tuple(rows)


class AreaCase(PlainCase):
    def check_rows(self, found, rows):
        self.assertIs(type(found), Area)
        self.same(found.rows, rows)

    def check_pairs(self, found, pairs):
        """The area has just these pairs of small days and tags."""
        pairs = set(pairs)
        self.check_rows(found, rows_of(pairs))
        self.same(found.size, len(pairs))
        self.same(found.least, min(pairs) if pairs else None)
        self.assertIs(bool(found), bool(pairs))
        for pair in GRID:
            self.assertIs(pair in found, pair in pairs)


class Parts(AreaCase):
    def test_none(self):
        self.check_rows(Area(), ())
        self.check_pairs(Area(), [])
        self.same(list(Area().walk()), [])

    def test_all(self):
        self.check_rows(Area.whole(), ((ALL, (ALL,)),))
        self.same(Area.whole().size, (LIMIT + 1) ** 2)
        self.same(Area.whole().least, (0, 0))
        self.check_rows(Area((ALL, ALL), ((3, 4), (5, 6))), ((ALL, (ALL,)),))

    def test_parts_that_overlap_touch_and_are_equal(self):
        part = ((2, 5), (3, 9))
        self.check_rows(Area(part), (((2, 5), ((3, 9),)),))
        self.check_rows(Area(part, part), (((2, 5), ((3, 9),)),))
        self.check_rows(Area(part, ((6, 8), (3, 9))), (((2, 8), ((3, 9),)),))
        self.check_rows(Area(part, ((7, 8), (3, 9))), (((2, 5), ((3, 9),)), ((7, 8), ((3, 9),))))
        self.check_rows(Area(part, ((2, 5), (10, 12))), (((2, 5), ((3, 12),)),))
        self.check_rows(Area(part, ((2, 5), (11, 12))), (((2, 5), ((3, 9), (11, 12))),))
        self.check_rows(Area(part, ((4, 6), (8, 11))),
                        (((2, 3), ((3, 9),)), ((4, 5), ((3, 11),)), ((6, 6), ((8, 11),))))
        self.check_rows(Area(part, ((3, 4), (4, 5))), (((2, 5), ((3, 9),)),))
        self.check_rows(Area(((3, 3), (4, 4)), part), (((2, 5), ((3, 9),)),))

    def test_the_ends(self):
        found = Area(((0, 0), (LIMIT, LIMIT)), ((LIMIT, LIMIT), (0, 0)), ((1, LIMIT), (LIMIT, LIMIT)))
        self.check_rows(found, (((0, LIMIT - 1), ((LIMIT, LIMIT),)), ((LIMIT, LIMIT), ((0, 0), (LIMIT, LIMIT)))))
        self.same(found.size, LIMIT + 2)
        self.same(found.least, (0, LIMIT))

    def test_small_parts(self):
        source = random.Random(101)
        for _ in range(200):
            parts = small_parts(source, source.randint(1, 6))
            self.check_pairs(Area(*parts), [pair for pair in GRID for days, tags in parts
                                            if days[0] <= pair[0] <= days[1] and tags[0] <= pair[1] <= tags[1]])

    def test_wrong_parts(self):
        right = ((0, 1), (2, 3))
        wrong = [*samples.ANY_VALUES, (0, 1), ((0, 1),), ((0, 1), (2, 3), (4, 5)), [(0, 1), (2, 3)], ((0, 1), [2, 3]),
                 ((1, 0), (2, 3)), ((0, 1), (3, 2)), ((0, 1), None), (None, (2, 3)), right[::-1] + right, Area(), Area(right)]
        wrong += [(right[0], value) for value in samples.WRONG_STRETCHES]
        wrong += [(value, right[1]) for value in samples.WRONG_STRETCHES]
        for value in wrong:
            # True is equal to 1, so the place is told beside the parts.
            for place, parts in enumerate(([value], [right, value], [right, right, value, right, value])):
                with self.assertRaises(InvalidPart) as caught:
                    Area(*parts)
                self.assertIs(type(caught.exception), InvalidPart)
                self.same(caught.exception.index, place)


class Operators(AreaCase):
    def test_small_areas(self):
        source = random.Random(102)
        for _ in range(200):
            one, other = [Area(*small_parts(source, source.randint(0, 4))) for _ in range(2)]
            ones, others = [{pair for pair in GRID if pair in found} for found in (one, other)]
            rows = (one.rows, other.rows)
            self.check_pairs(one | other, ones | others)
            self.check_pairs(one & other, ones & others)
            self.check_pairs(one - other, ones - others)
            self.assertIs(one.is_within(other), ones <= others)
            self.assertIs(one.is_within(other=one | other), True)
            self.assertIs(one == other, ones == others)
            self.assertIs(one != other, ones != others)
            self.same((one.rows, other.rows), rows)

    def test_pairs_at_all_ends(self):
        for one, other in itertools.product(AREAS, repeat=2):
            self.assertEqual((one | other).size + (one & other).size, one.size + other.size)
            self.assertEqual((one - other).size, one.size - (one & other).size)
            for pair in itertools.product(EDGES, repeat=2):
                self.assertIs(pair in one | other, pair in one or pair in other)
                self.assertIs(pair in one & other, pair in one and pair in other)
                self.assertIs(pair in one - other, pair in one and pair not in other)
            self.assertIs(one.is_within(other), one - other == Area())

    def test_equal(self):
        for one, other in itertools.combinations(AREAS, 2):
            self.assertIs(one == other, False)
        self.assertIs(Area(((0, 3), (1, 2))) == Area(((2, 3), (1, 2)), ((0, 1), (2, 2)), ((0, 1), (1, 1))), True)
        for found in AREAS:
            self.assertIs(found == Area(*found.walk()), True)
            for other in (found.rows, list(found.walk()), *samples.ANY_VALUES):
                self.assertIs(found == other, False)
                self.assertIs(found != other, True)

    def test_bool(self):
        self.assertEqual([bool(found) for found in AREAS], [False] + [True] * 6)
        self.assertIs(bool(AREAS[1] & AREAS[6]), False)

    def test_in_any_value(self):
        for value in [*samples.ANY_VALUES, (0,), (0, 0, 0), [0, 0], (True, 0), (0, False), (-1, 0), (0, -1), (LIMIT + 1, 0),
                      (0, LIMIT + 1), (None, 0), ("0", "0"), ((0, 0), (0, 0)), ((0, 0),), (0, 0.5)]:
            for found in AREAS:
                self.assertIs(value in found, found == Area.whole() and value == (0, 9))
        for pair in itertools.product(EDGES, repeat=2):
            self.assertIs(pair in Area.whole(), True)
            self.assertIs(pair in Area(), False)


class Questions(AreaCase):
    def test_on_and_days_for(self):
        source = random.Random(103)
        for found in [*AREAS, *[Area(*small_parts(source, source.randint(0, 5))) for _ in range(60)]]:
            for number in (*range(9), *EDGES):
                tags, days = found.on(day=number), found.days_for(tag=number)
                self.same((found.on(number), found.days_for(number)), (tags, days))
                for rows, pair_with in ((tags, lambda other: (number, other)), (days, lambda other: (other, number))):
                    self.assertIs(type(rows), tuple)
                    self.assertTrue(oracles.are_plain(rows))
                    self.assertTrue(all(one[1] + 1 < other[0] for one, other in zip(rows, rows[1:])))
                    for other in (*range(9), *EDGES):
                        self.assertIs(any(first <= other <= last for first, last in rows), pair_with(other) in found)

    def test_days_beside_one_another_with_other_tags(self):
        found = Area(((0, 3), (1, 5)), ((4, 6), (1, 2)), ((8, LIMIT), (0, 1)))
        self.same(found.days_for(1), ((0, 6), (8, LIMIT)))
        self.same(found.days_for(3), ((0, 3),))
        self.same(found.days_for(6), ())
        self.same(found.on(5), ((1, 2),))
        self.same(found.on(7), ())

    def test_walk(self):
        for found in AREAS:
            self.same(list(found.walk()), [(days, stretch) for days, tags in found.rows for stretch in tags])
        steps = Area(((2, 5), (3, 9)), ((2, 5), (11, 12)), ((9, 9), (1, 1))).walk()
        self.same(next(steps), ((2, 5), (3, 9)))
        self.same(next(steps), ((2, 5), (11, 12)))
        self.same(next(AREAS[3].walk()), ((0, 7), (0, 7)))
        self.same(list(steps), [((9, 9), (1, 1))])


class Rights(AreaCase):
    def test_the_example(self):
        self.check_rows(area(BOOK, "ann", ["dan"]), (((0, 9), ((15, 20),)),))
        self.same(area(BOOK, "ann", ["cy"]).size, 55)
        self.same(unlike(BOOK, BOOK.without(3), "ann", ["dan"]), (0, 0, 15))
        self.check_rows(area(book=BOOK, owner="zed", group=("ann", "zed")), ((ALL, (ALL,)),))
        self.check_rows(area(Book(), "ann", ["bob"]), ())

    def test_against_may_and_passes_of(self):
        numbers = (0, 2, 3, 4, 5, 9, 10, LIMIT)
        for book in books(104, 60):
            for owner, group in itertools.product(("ann", "bob"), GROUPS[:4]):
                found = area(book, owner, group)
                for number, tag in itertools.product(numbers, repeat=2):
                    self.assertIs((number, tag) in found, may(book.on(number), owner, group, tag))
            for least in (0, 1, 4, 9, None):
                found = pass_area(book=book, owner="ann", person="bob", least=least)
                for number, tag in itertools.product(numbers, repeat=2):
                    passes = passes_of(book.on(number), "ann", "bob", tag)
                    is_in = passes != -1 and right_oracles.is_at_least(passes, least)
                    self.assertIs((number, tag) in found, is_in)

    def test_stretches_of_all_lengths(self):
        book = Book(leave("ann", ("bob",), tags=(0, 0), days=(LIMIT, LIMIT)), leave("ann", ("bob",), tags=(LIMIT, LIMIT)),
                    leave("ann", ("bob",), tags=(5, LIMIT - 1), days=(3, 10 ** 20), times=0),
                    leave("ann", ("cy", "x"), tags=(6, LIMIT), days=(7, LIMIT)), Naming("cy", "x", ("bob",), (0, 8)))
        top = (LIMIT, LIMIT)
        self.check_rows(area(book, "ann", ["bob"]), (
            ((0, 2), (top,)), ((3, 10 ** 20), ((5, LIMIT),)), ((10 ** 20 + 1, LIMIT - 1), (top,)), ((LIMIT, LIMIT), ((0, 0), top))))
        self.check_rows(pass_area(book, "ann", "bob", 1), (
            ((0, 6), (top,)), ((7, 8), ((6, LIMIT),)), ((9, LIMIT - 1), (top,)), ((LIMIT, LIMIT), ((0, 0), top))))
        self.assertEqual(pass_area(book, "ann", "bob", None), pass_area(book, "ann", "bob", 9))
        self.assertEqual(pass_area(book, "ann", "ann", None), Area.whole())
        self.assertEqual(pass_area(book, "ann", "zed", 0), Area())

    def test_unlike(self):
        for one, other in zip(books(105, 40), books(106, 40)):
            for owner, group in (("ann", ["bob"]), ("bob", ["dan", "cy"])):
                first, second = area(one, owner, group), area(other, owner, group)
                pairs = [(*apart.least, which) for which, apart in ((0, first - second), (1, second - first)) if apart]
                expected = (min(pairs)[2], *min(pairs)[:2]) if pairs else None
                self.same(unlike(one, other, owner, group), expected)
                turned = None if expected is None else (1 - expected[0], *expected[1:])
                self.same(unlike(one=other, other=one, owner=owner, group=tuple(group)), turned)
            self.assertIsNone(unlike(one, Book(*one.statements[::-1]), "ann", ["bob"]))

    def test_unlike_first_by_day_then_by_tag(self):
        one = Book(leave("ann", ("bob",), tags=(5, 5)), leave("ann", ("bob",), tags=(3, 3), days=(2, 2)))
        other = Book(leave("ann", ("bob",), tags=(5, 6), days=(1, 9)), leave("ann", ("bob",), tags=(4, 5), days=(0, 0)))
        self.same(unlike(one, other, "ann", ["bob"]), (1, 0, 4))
        self.same(unlike(other, one, "ann", ["bob"]), (0, 0, 4))
        self.same(unlike(one, one.without(0), "ann", ["bob"]), (0, 0, 5))
        self.same(unlike(one, one.without(1), "ann", ["bob"]), (0, 2, 3))


class Groups(AreaCase):
    def test_against_all_groups(self):
        for one, other in zip(books(107, 60, 7), books(108, 60, 7)):
            days = (one.on(3), other.on(9))
            for owner, most in itertools.product(("ann", "zed"), (1, 2, 3)):
                persons = sorted({*one.persons, *other.persons, owner})
                expected = None
                for group in [group for size in range(1, most + 1) for group in itertools.combinations(persons, size)]:
                    able = [right_oracles.may(day.book, day.number, owner, group, 4) for day in days]
                    if expected is None and able[0] != able[1]:
                        expected = (0 if able[0] else 1, group)
                self.same(unlike_group(*days, owner, 4, most), expected)
                turned = None if expected is None else (1 - expected[0], expected[1])
                self.same(unlike_group(one=days[1], other=days[0], owner=owner, tag=4, most=most), turned)

    def test_persons_of_one_book_only(self):
        one = Book(leave("ann", ("bob",), ("cy",), many=2))
        other = Book(Leave("ann", ("dan",), (0, 0)), Leave("ann", ("bob",), (1, 1)))
        self.same(unlike_group(one.on(0), other.on(0), "ann", 0, 1), (1, ("dan",)))
        self.same(unlike_group(one.on(0), other.on(0), "ann", 1, 2), (1, ("bob",)))
        self.same(unlike_group(one.on(0), other.on(0), "ann", 2, 2), (0, ("bob", "cy")))
        self.assertIsNone(unlike_group(one.on(0), other.on(0), "ann", 2, 1))
        self.assertIsNone(unlike_group(one.on(0), one.on(LIMIT), "ann", 2, 3))
        self.assertIsNone(unlike_group(one.on(0), Book().on(0), "zed", 2, 3))
