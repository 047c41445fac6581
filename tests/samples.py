"""Things that the tests share: wrong things of each kind, folk, and rows of deeds."""

import random

MOST = 10 ** 18
LETTERS = "abcdefghijklmnopqrstuvwxyz"


def nested_list(depth):
    thing = 7
    for _ in range(depth):
        thing = [thing]
    return thing


def nested_tuple(depth):
    thing = "a"
    for _ in range(depth):
        thing = (thing,)
    return thing


def mixed_nest(depth):
    thing = None
    for at in range(depth):
        thing = [thing, True] if at % 2 else (thing, 0)
    return thing


def folk_of(many):
    """So many unlike names, in an order that is not rising."""
    return tuple(LETTERS[-at % 26] + LETTERS[at // 26] for at in range(many))


# Made as point 2 says, and none of them a state, a name, a number of cents, a row of deeds or times.
NEVER = [
    True, False, None, -1, -(10 ** 39), 10 ** 40 - 1, MOST + 1,
    "", " ", "~", "Ann", "a b", "a1", "ninechars", "x" * 100, "0", "1",
    (), (1,), (0, (), ()), [0], [0, ()], [None], [[]], ((), 0), ("bill", 1), ("a",), ["a"],
    [1] * 100, ("a",) * 100, ((),) * 100,
    nested_list(10), nested_tuple(10), mixed_nest(10),
]

WRONG_STATES = NEVER + [
    0, 1, "a", "ab", [],
    (0,), (0, (), None), (0, ("a",), 0), [0, ("a",)], [5, ()],
    (True, ("a",)), (False, ()), (None, ()), ("0", ()), ((), ()), ([], ()), ((0,), ("a",)),
    (-1, ("a",)), (-1, ()), (MOST + 1, ("a",)), (10 ** 40 - 1, ("a",)),
    (1, ()), (MOST, ()),
    (0, []), (0, ["a"]), (5, ["a", "b"]), (0, None), (0, "a"), (0, "ab"), (0, ""), (0, 0), (0, True),
    (0, ("a", "a")), (5, ("a", "b", "a")), (0, ("",)), (0, ("ninechars",)), (0, ("A",)), (0, ("aB",)),
    (0, ("a", "")), (0, ("a b",)), (0, ("a1",)), (0, ("`",)), (0, ("{",)), (0, (1,)), (0, (None,)), (0, (True,)),
    (0, (("a",),)), (0, (["a"],)), (0, ([], [])), (0, ("a", ["b"])), (0, ("a", ("b",))),
    (0, folk_of(41)), (5, folk_of(41)), (0, folk_of(100)), (0, nested_tuple(9)), (0, nested_list(9)),
    ("a", 0), (("a",), 0),
]

WRONG_CENTS = NEVER + ["a", "5", [], [5], (5,), (5, 5), (0, ("a",))]

WRONG_NAMES = NEVER + [
    0, 1, MOST, [], (0, ("a",)), "A", "aA", "Za", " a", "a ", "a-b", "a_b", "`", "{", "abcdefghi", "a" * 9,
    ("a", "b"), ["a", "b"],
]

WRONG_TIMES = NEVER + [0, "a", [], [1], (1, 1), (0, ("a",))]

RIGHT_DEEDS = [("bill", 1)] * 99

WRONG_DEEDS = NEVER + [
    0, 1, "a", "bill", (("bill", 1),), (("come", "z"), ("go", "z")), ("come", "z"), ["come", "z"], ["bill", 1],
    [("bill", 1)] * 101, [("come", "z"), ("go", "z")] * 50 + [("bill", 0)],
    [["bill", 1]], [["come", "z"]], [("bill",)], [("bill", 1, 1)], [("come", "z", "y")], [()], [1], [None], ["bill"],
    [True], [[("bill", 1)]], [(("bill", 1),)],
    [("bill", -1)], [("bill", MOST + 1)], [("bill", True)], [("bill", False)], [("bill", None)], [("bill", "1")],
    [("bill", "a")], [("bill", [1])], [("bill", (1,))], [("bill", nested_list(8))],
    [("come", "")], [("come", "ninechars")], [("come", "Z")], [("come", 1)], [("come", None)], [("come", True)],
    [("come", ["z"])], [("come", ("z",))], [("go", "")], [("go", "a b")], [("go", 0)], [("go", ["a"])], [("go", None)],
    [("pay", 1)], [("", "a")], [("Bill", 1)], [("BILL", 1)], [("comes", "z")], [("bil", 1)], [("g", "a")],
    [(1, "a")], [(None, 1)], [(True, "a")], [(["bill"], 1)], [(("come",), "z")], [("a", "go")], [(1, "bill")],
    RIGHT_DEEDS + [("bill", -1)], [("bill", True)] + RIGHT_DEEDS,
    # Deeds that are not possible do not go ahead of a thing that is no deed.
    [("go", "nobody"), ("bill", -1)], [("bill", MOST), ("bill", MOST), None],
]

STATES = [
    (0, ()), (0, ("a",)), (1, ("a",)), (MOST, ("a",)), (0, ("b", "a")), (1, ("b", "a")), (7, ("c", "a", "b")),
    (100, ("zoe", "ann", "bob")), (2, ("abcdefgh", "a", "z", "m")), (0, folk_of(39)), (17, folk_of(39)),
    (0, folk_of(40)), (39, folk_of(40)), (40, folk_of(40)), (MOST, folk_of(40)), (MOST - 1, folk_of(39)),
]


def dealt(bills, folk):
    """What each has paid, by another way: cents are dealt one by one, in the order of the folk."""
    counts = [0] * len(folk)
    for cent in range(bills):
        counts[cent % len(folk)] += 1
    return dict(zip(folk, counts))


def random_row(chance, state, many, most_bill):
    """A row of possible deeds, and the state behind it."""
    bills, folk = state
    row = []
    for _ in range(many):
        word = chance.choice(["bill", "come", "go"])
        absent = [name for name in folk_of(45) if name not in folk]
        if word == "bill" and folk:
            cents = chance.randint(0, min(most_bill, MOST - bills))
            row.append((word, cents))
            bills += cents
        elif word == "come" and len(folk) < 40:
            name = chance.choice(absent)
            row.append((word, name))
            folk = folk + (name,)
        elif word == "go" and folk and (len(folk) > 1 or bills == 0):
            name = chance.choice(folk)
            row.append((word, name))
            folk = tuple(other for other in folk if other != name)
    return row, (bills, folk)


def chance_of(seed):
    return random.Random(seed)


# Wrong of any number that must be at least 1, whatever the most of it is.
WRONG_MANY = NEVER + [0, "a", "1", [], [1], (1, 1), (0, ("a",)), 10 ** 6 + 1, MOST]

WRONG_PLACES = NEVER + ["a", "0", [], [0], (0,), (0, ("a",)), 40, 10 ** 6]

RIGHT_SIGHT = (3, 1, 5)

WRONG_SIGHTS = [thing for thing in NEVER if thing != ()] + [
    (), 0, 1, 5, "abc", [], [3, 1, 5], (3, 1), (3,), (3, 1, 5, 0), (3, (1, 5)), ((3, 1, 5),), [(3, 1, 5)],
    (0, 0, 5), (-1, 0, 5), (41, 0, 5), (10 ** 39, 0, 5), (True, 0, 5), (None, 0, 5), ("3", 1, 5), ([3], 1, 5),
    ((3,), 1, 5), (nested_list(8), 0, 0), (3, -1, 5), (3, 3, 5), (1, 1, 5), (40, 40, 5), (3, 10 ** 39, 5), (3, True, 5),
    (3, False, 5), (3, None, 5), (3, "1", 5), (3, [1], 5), (3, (1,), 5), (3, nested_tuple(8), 0), (3, 1, -1),
    (3, 1, MOST + 1), (3, 1, 10 ** 40 - 1), (3, 1, True), (3, 1, False), (3, 1, None), (3, 1, "5"), (3, 1, [5]),
    (3, 1, (5,)), (3, 1, nested_list(8)), (True, True, True), (1, False, 5), (None, None, None), ([], [], []),
]

WRONG_SEEN = NEVER + [
    (), [], 0, 1, 5, "abc", RIGHT_SIGHT, [RIGHT_SIGHT], [RIGHT_SIGHT, RIGHT_SIGHT], ([RIGHT_SIGHT],), ((RIGHT_SIGHT,),),
    (RIGHT_SIGHT,) * 11, (RIGHT_SIGHT,) * 100, (RIGHT_SIGHT,) * 9 + (None,), ((0, 0, 0),) + (RIGHT_SIGHT,) * 9,
    "(3, 1, 5)",
] + [(thing,) for thing in WRONG_SIGHTS] + [(RIGHT_SIGHT, thing) for thing in WRONG_SIGHTS]

WRONG_PARTS = [thing for thing in NEVER if thing not in ((), ("bill", 1))] + [
    (), 0, 1, "b", "bb", [], ["b", 1], ("b",), ("b", 1, 1), (1, "b"), (("b", 1),), [("b", 1)], ("b", (1,)), ("b", [1]),
    ("", 1), ("B", 1), ("bbbbbbbbb", 1), ("b b", 1), ("b1", 1), (None, 1), (True, 1), (2, 1), (["b"], 1), (("b",), 1),
    ("b", -1), ("b", MOST + 1), ("b", 10 ** 40 - 1), ("b", True), ("b", False), ("b", None), ("b", "1"), ("b", "b"),
    (nested_list(8), 1), ("b", nested_tuple(8)), ([], []), (None, None),
]

WRONG_KNOWN = NEVER + [
    (), [], 0, 1, "ab", ("a", 1), ["a", 1], [("a", 1)], [("a", 1), ("b", 1)], (("a", 1), ["b", 1]), ((("a", 1),),),
    (("a", 1), ("a", 1)), (("a", 1), ("a", 2)), (("a", 2), ("a", 1)), (("b", 1), ("a", 1)), (("b", 1), ("a", 2)),
    (("a", 1), ("c", 1), ("b", 1)), (("b", 1), ("a", 1), ("c", 1)), (("a", 1), ("b", 1), ("b", 1)),
    (("a", 1), ("b", 1), ("a", 1)), (("aa", 1), ("a", 1)), (("z", 1), ("abc", 1)),
    tuple((letter, 1) for letter in LETTERS[:9]), tuple((letter, 0) for letter in LETTERS),
] + [(thing,) for thing in WRONG_PARTS] + [(("a", 1), thing) for thing in WRONG_PARTS]
