"""[54]: Way and ShortestWay; [2] as far as it speaks of them."""

import itertools

from namechains.books import Book
from namechains.errors import NotDone, NotMeant, OutOfRange
from namechains.limits import LIMIT
from namechains.statements import Leave, Naming
from namechains.ways import ShortestWay, Way, steps
from tests import oracles, samples
from tests.cases import PlainCase
from tests.test_ways import ALL, BOOK, HALF, LETTERS, lines
from tests.way_oracles import rewritten, ways_listed

DAY = BOOK.on(0)
# Ann's x grows without end; a Leave and a naming of other days stand between.
GROWING = Book(Leave("ann", ("bob",), (0, 9)), Naming("ann", "x", ("ann", "x", "y", "z")), Naming("ann", "x", ("bob",)),
               Naming("ann", "x", ("cy",), (5, 9)), Naming("bob", "y", ("bob",)), Naming("bob", "z", ("ann",)))
NOT_NUMBERS = [value for value in samples.ANY_VALUES if type(value) is not int]
FAR = lines(21, 4, Naming("ann", LETTERS[21], ("ann",)))
FAR_LENGTH = sum(4 ** at for at in range(22))


class WayCase(PlainCase):
    def check_way(self, way, day, chains, indexes):
        """The way passes these chains by the namings with these indexes."""
        self.assertIsInstance(way, Way)
        self.assertEqual(way.day, day)
        self.same((way.chain, way.goal, way.length), (chains[0], chains[-1], len(indexes)))
        self.same([way.chain_at(number) for number in range(len(chains))], list(chains))
        self.same([way.index_at(number) for number in range(len(indexes))], list(indexes))
        self.same(list(way.chains()), list(chains))
        self.same(list(itertools.islice(way.chains(), 2)), list(chains[:2]))
        for number in (-1, len(indexes), len(indexes) + 5, -LIMIT, True, False, *NOT_NUMBERS):
            self.check_error(OutOfRange, "value", number, lambda: way.index_at(number))
        for number in (-1, len(indexes) + 1, LIMIT, True, False, *NOT_NUMBERS):
            self.check_error(OutOfRange, "value", number, lambda: way.chain_at(number))


class Ways(WayCase):
    def test_without_indexes(self):
        for chain in (("ann",), ("zed", "x"), ("ann",) + ("x",) * 8):
            self.check_way(Way(DAY, chain), DAY, [chain], [])
            self.check_way(Way(day=DAY, chain=chain), DAY, [chain], [])

    def test_some(self):
        self.check_way(Way(DAY, HALF, 1, 2, 3), DAY, [HALF, ("ann", "one", "one"), ("ann", "one"), ("bob",)], [1, 2, 3])
        self.check_way(Way(DAY, ALL, 0, 1), DAY, [ALL, ("ann", "half", "half"), ("ann", "one", "one", "half")], [0, 1])
        day = GROWING.on(0)
        self.check_way(Way(day, ("ann", "x"), 1, 1, 2, 4), day, [
            ("ann", "x"), ("ann", "x", "y", "z"), ("ann", "x", "y", "z", "y", "z"), ("bob", "y", "z", "y", "z"),
            ("bob", "z", "y", "z")], [1, 1, 2, 4])

    def test_all_ways_of_small_books(self):
        for book in oracles.random_books(71, 40, days=[None, (0, 4), (3, 9)]):
            day = book.on(3)
            for chain in (("ann", "x"), ("bob", "y", "x"), ("cy",)):
                ways = [((), (chain,))]
                for _ in range(3):
                    ways = [((*way, index), (*passed, other)) for way, passed in ways
                            for index, other in rewritten(day, passed[-1])]
                    for way, passed in ways[:4]:
                        self.check_way(Way(day, chain, *way), day, passed, way)

    def test_what_cannot_be_done(self):
        day = GROWING.on(0)
        for wrong in (0, 3, 4, 5, 6, -1, -5, True, False, LIMIT, *NOT_NUMBERS):
            self.check_error(NotDone, "index", 0, lambda: Way(day, ("ann", "x"), wrong))
            self.check_error(NotDone, "index", 2, lambda: Way(day, ("ann", "x"), 1, 1, wrong, 2))
        self.check_error(NotDone, "index", 0, lambda: Way(day, ("bob",), 2))
        self.check_error(NotDone, "index", 1, lambda: Way(day, ("ann", "x"), 2, 2))
        self.check_error(NotDone, "index", 1, lambda: Way(day, ("ann", "x"), 2, None, None))
        self.check_error(NotDone, "index", 0, lambda: Way(day, ("zed", "x"), 1))
        self.check_error(NotDone, "index", 0, lambda: Way(day, ("ann", "y"), 1))
        self.check_error(NotDone, "index", 0, lambda: Way(Book().on(0), ("ann", "x"), 0))
        self.check_way(Way(GROWING.on(5), ("ann", "x"), 3), GROWING.on(5), [("ann", "x"), ("cy",)], [3])

    def test_a_bool_is_no_index(self):
        self.check_error(NotDone, "index", 0, lambda: Way(DAY, HALF, True))
        self.check_error(NotDone, "index", 0, lambda: Way(DAY, ALL, False))

    def test_long_ones(self):
        day = GROWING.on(0)
        way = Way(day, ("ann", "x"), *[1] * 3000)
        self.same(way.length, 3000)
        self.same(way.goal, ("ann", "x") + ("y", "z") * 3000)
        self.same(way.chain_at(2999), ("ann", "x") + ("y", "z") * 2999)
        self.same(way.index_at(2999), 1)


class ShortestWays(WayCase):
    def test_the_example(self):
        way = ShortestWay(DAY, HALF, "ann")
        self.same([way.length, way.chain_at(1), way.goal], [3, ("ann", "one", "one"), ("ann",)])
        self.same([way.chain_at(number=number) for number in (0, 3)], [HALF, ("ann",)])
        self.assertIsInstance(way, ShortestWay)
        self.assertTrue(issubclass(ShortestWay, Way))

    def test_bare_chains(self):
        self.check_way(ShortestWay(DAY, ("ann",), "ann"), DAY, [("ann",)], [])
        self.check_way(ShortestWay(day=DAY, chain=("zed",), person="zed"), DAY, [("zed",)], [])

    def test_small_books(self):
        for book in oracles.random_books(72, 120, days=[None, (0, 4), (3, 9)]):
            day = book.on(3)
            for chain in (("ann", "x"), ("bob", "x", "y"), ("cy", "y", "x", "x")):
                for person in oracles.meant(oracles.rules_on(book, 3), chain):
                    way = ShortestWay(day, chain, person)
                    self.assertEqual(way.length, steps(day, chain, person))
                    indexes = [way.index_at(number) for number in range(way.length)]
                    followed = Way(day, chain, *indexes)
                    self.assertEqual(followed.goal, (person,))
                    self.check_way(way, day, list(followed.chains()), indexes)
                    if way.length < 6:
                        self.assertIn(tuple(indexes), ways_listed(day, chain, person, way.length))

    def test_persons_who_are_not_meant(self):
        for chain, person in ((HALF, "zed"), (("zed",), "ann"), (("zed", "x"), "zed")):
            with self.assertRaises(NotMeant) as caught:
                ShortestWay(DAY, chain, person)
            self.same(caught.exception.word, person)

    def test_far_too_long_to_be_followed(self):
        way = ShortestWay(FAR, ("ann", "a"), "ann")
        self.same(way.length, FAR_LENGTH)
        self.same((way.chain, way.goal), (("ann", "a"), ("ann",)))
        self.same(way.chain_at(0), ("ann", "a"))
        self.same(way.chain_at(21), ("ann", LETTERS[21]) + tuple(
            [name for at in range(21, 0, -1) for name in LETTERS[at] * 3]))
        self.same(way.chain_at(FAR_LENGTH), ("ann",))
        self.same(way.chain_at(FAR_LENGTH - 1), ("ann", LETTERS[21]))
        quarter = (FAR_LENGTH - 1) // 4
        self.same([way.chain_at(1 + quarter * times) for times in range(4)],
                  [("ann",) + ("b",) * (4 - times) for times in range(4)])
        self.same([way.index_at(number) for number in (0, 1, 1 + quarter, 21, 22, FAR_LENGTH - 1)],
                  [0, 1, 1, 21, 21, 21])
        for number in (-1, FAR_LENGTH + 1, True, None, "1"):
            self.check_error(OutOfRange, "value", number, lambda: way.chain_at(number))
        for number in (-1, FAR_LENGTH, False, (), 10 ** 40):
            self.check_error(OutOfRange, "value", number, lambda: way.index_at(number=number))

    def test_each_rewriting_in_the_middle(self):
        way = ShortestWay(FAR, ("ann", "a"), "ann")
        for first in (0, 5, FAR_LENGTH // 2, FAR_LENGTH // 3, FAR_LENGTH - 150):
            for number in range(first, min(first + 150, FAR_LENGTH)):
                self.assertIn((way.index_at(number), way.chain_at(number + 1)), rewritten(FAR, way.chain_at(number)))

    def test_chains_left_early(self):
        way = ShortestWay(FAR, ("ann", "a"), "ann")
        for _ in range(2):
            self.same(list(itertools.islice(way.chains(), 3)), [("ann", "a"), ("ann",) + ("b",) * 4,
                                                                ("ann",) + ("c",) * 4 + ("b",) * 3])


class Parts(WayCase):
    def check_part(self, way, first, last):
        for part in (way.part(first, last), way.part(first=first, last=last)):
            self.assertIs(type(part), Way)
            self.check_way(part, way.day, [way.chain_at(number) for number in range(first, last + 1)],
                           [way.index_at(number) for number in range(first, last)])

    def test_small_ways(self):
        for way in (Way(DAY, ALL, 0, 1, 2, 2), ShortestWay(DAY, ALL, "bob"), Way(DAY, ("zed",))):
            for first in range(way.length + 1):
                for last in range(first, way.length + 1):
                    self.check_part(way, first, last)

    def test_two_hundred_rewritings(self):
        day = GROWING.on(0)
        for way in (Way(day, ("ann", "x"), *[1] * 450), ShortestWay(FAR, ("ann", "a"), "ann")):
            for first in (0, 7, 250, way.length - 200):
                part = way.part(first, first + 200)
                self.same((part.length, part.chain, part.goal), (200, way.chain_at(first), way.chain_at(first + 200)))
            for last in (first + 201, -1, first - 1, True, None, "a", (first,), LIMIT ** 2):
                self.check_error(OutOfRange, "value", last, lambda: way.part(first, last))
            self.check_error(OutOfRange, "value", 201, lambda: way.part(0, 201))

    def test_wrong_ends(self):
        for way in (Way(DAY, HALF, 1, 2), ShortestWay(DAY, ("ann", "one", "one"), "bob")):
            for wrong in (-1, 3, True, False, LIMIT, *NOT_NUMBERS):
                self.check_error(OutOfRange, "value", wrong, lambda: way.part(wrong, 2))
                self.check_error(OutOfRange, "value", wrong, lambda: way.part(0, wrong))
                self.check_error(OutOfRange, "value", wrong, lambda: way.part(wrong, "later"))
            self.check_error(OutOfRange, "value", 1, lambda: way.part(2, 1))
            self.check_error(OutOfRange, "value", 3, lambda: way.part(3, 1))
            self.check_error(OutOfRange, "value", 3, lambda: way.part(2, 3))
