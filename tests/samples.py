"""Values that several tests need: right ones at the edges, and wrong ones of every kind."""

from namechains.limits import LIMIT

# As [2] says what "any value" is: each kind, short and long, and nested eight deep.
ANY_VALUES = [
    None, True, False, 0, 1, -1, LIMIT, 10 ** 60 - 1, "", "ann", "two words", "line\n", "a" * 5000,
    (), ("ann",), (0, 9), [], ["ann"], [0, 9], {}, {"ann": ["bob"]}, ((((((((1,),),),),),),),),
    [[[[[[[[None]]]]]]]], {"a": {"b": {"c": {"d": {"e": {"f": {"g": {"h": ()}}}}}}}},
]

RIGHT_WORDS = ["a", "z", "ann", "abcdefgh", "zzzzzzzz"]

WRONG_WORDS = [
    None, True, False, 0, 1, -1, LIMIT, "", "abcdefghi", "a" * 5000, "Ann", "anN", "ANN", "a1", "1", "`", "a`", "{",
    "z{", "a b", " ann", "ann ", " ", "ann\n", "\nann", "a\nb", "\n", "a-b", "a_b", "a.b", "~", (), ("ann",),
    ("a", "n", "n"), [], ["ann"], {}, {"ann": "ann"}, ((((((((1,),),),),),),),),
]

RIGHT_CHAINS = [
    ("bob",), ("b",), ("abcdefgh",), ("bob", "bob"), ("bob", "friend"), ("bob", "friend", "friend"),
    ("bob", "a", "b", "c"), ("bob", "a", "b", "c", "d"), ("zzzzzzzz",) * 5,
]

WRONG_CHAINS = [
    None, True, False, 0, 5, LIMIT, "", "bob", "bob friend", (), [], ["bob"], ["bob", "friend"], {}, {"bob": "friend"},
    ("bob", "a", "b", "c", "d", "e"), ("bob",) * 9, ("",), ("Bob",), ("bob\n",), ("abcdefghi",), ("bob", ""),
    ("bob", "friend "), ("bob", "a", "b", "c", "D"), ("bob", "a", "b", "c", "d\n"), (None,), (1,), (True,),
    ("bob", None), ("bob", 1), (1, "bob"), (("bob",),), ("bob", ("friend",)), (["bob"],), ("bob", ["friend"]),
    ("bob", {}), (("bob",), ("friend",)), ((((((((1,),),),),),),),),
]

RIGHT_STRETCHES = [(0, 0), (0, 1), (3, 9), (5, 5), (0, LIMIT), (1, LIMIT), (0, LIMIT - 1), (LIMIT, LIMIT)]

WRONG_STRETCHES = [
    True, False, 0, 9, -1, LIMIT, "", "0 9", "09", (), [], [0, 9], {}, {0: 9}, (1, 0), (9, 3), (LIMIT, LIMIT - 1),
    (LIMIT, 0), (-1, 0), (-1, 9), (-2, -1), (0, -1), (0, LIMIT + 1), (LIMIT + 1, LIMIT + 1), (LIMIT, LIMIT + 1),
    (0, 10 ** 59), (False, 9), (0, True), (False, True), (True, True), (False, False), (0,), (0, 9, 9), (0, 9, None),
    (None, None), (0, None), (None, 9), ("0", "9"), (0, "9"), ("", ""), ((0,), (9,)), ((0, 9),), (0, (9,)), (0, [9]),
    ([0], 9), (0, {}), ((((((((1,),),),),),),),),
]

FOUR_CHAINS = (("bob",), ("bob", "friend"), ("cleo",), ("dan", "a", "b", "c", "d"))

RIGHT_SHARES = [(number, FOUR_CHAINS[:many]) for many in (1, 2, 3, 4) for number in range(1, many + 1)]

RIGHT_SUBJECTS = RIGHT_CHAINS + RIGHT_SHARES + [
    (2, (("cleo",), ("bob",))), (1, (("bob", "bob"), ("bob",))), (1, (("abcdefgh",),)),
]

WRONG_SHARES = [
    (0, FOUR_CHAINS[:1]), (0, FOUR_CHAINS), (-1, FOUR_CHAINS), (2, FOUR_CHAINS[:1]), (3, FOUR_CHAINS[:2]),
    (5, FOUR_CHAINS), (LIMIT, FOUR_CHAINS), (True, FOUR_CHAINS[:1]), (True, FOUR_CHAINS), (False, FOUR_CHAINS),
    (None, FOUR_CHAINS), ("1", FOUR_CHAINS), ("", FOUR_CHAINS), ((1,), FOUR_CHAINS), ([1], FOUR_CHAINS),
    (0, ()), (1, ()), (1, FOUR_CHAINS + (("eve",),)), (5, FOUR_CHAINS + (("eve",),)),
    (1, (("bob",), ("bob",))), (2, (("bob",), ("cleo",), ("bob",))), (1, (("cleo",), ("bob", "a"), ("bob", "a"))),
    (1, (("bob", "a", "b", "c", "d", "e"),)), (1, (("bob",), ("bob", "a", "b", "c", "d", "e"))), (1, ((),)),
    (1, (("bob",), ())), (1, (("Bob",),)), (1, (("bob",), ("cleo", "a1"))), (1, (("bob\n",),)), (1, (("abcdefghi",),)),
    (1, ((1,),)), (1, ((None,),)), (1, ((True,),)), (1, (["bob"],)), (1, (("bob",), ["cleo"])), (1, [("bob",)]),
    (1, [["bob"]]), [1, (("bob",),)], [1, [["bob"]]], (1, ("bob",)), (1, ("bob", "friend")), (1, "bob"), (1, None),
    (1, 1), (1, {}), (1, {("bob",): 1}), (1, (None,)), (1, ({},)), (1, (1, (("bob",),))), (1,), (1, FOUR_CHAINS, 1),
    (1, *FOUR_CHAINS), (FOUR_CHAINS, 1), FOUR_CHAINS, ("bob", (("bob",),)),
]

WRONG_SUBJECTS = WRONG_CHAINS + WRONG_SHARES

RIGHT_TIMES = [None, *range(10)]

WRONG_TIMES = [
    True, False, -1, 10, -9, LIMIT, -LIMIT, "", "1", "None", (), (1,), (None,), (0, 9), [], [1], {}, {1: 1},
    ((((((((1,),),),),),),),),
]
