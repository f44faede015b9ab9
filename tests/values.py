"""Values that several tests pass: such as are no webs, no bays, no numbers."""

TAILED = (4, ((0, 1), (0, 2), (1, 2), (2, 3)))


def deep(depth, inside=()):
    """A tuple within tuples."""
    for _ in range(depth):
        inside = (inside,)
    return inside


def deep_list(depth):
    inside = []
    for _ in range(depth):
        inside = [inside]
    return inside


ANYTHING = [
    None, True, False, 0, 1, -1, 2, 10 ** 59, -10 ** 60, "", "web", "01", b"", (), [], {},
    {"n": 2}, {0: 1}, (None,), [[]], deep(12), deep_list(12), (deep(11), deep_list(11)),
]

NO_WEBS = ANYTHING + [
    # another kind of value where a tuple or an integer stands
    [2, ((0, 1),)], (2, [(0, 1)]), (2, ([0, 1],)), (2, {(0, 1): 1}), (2, "01"), (2, ("01",)),
    {2: ((0, 1),)}, "20", (True, ((0, 1),)), ("2", ((0, 1),)), (None, ((0, 1),)),
    ((2,), ((0, 1),)), (2, None), (2, 1), (2, (0, 1)), (2, (None,)), (2, ({},)), (2, (1,)),
    (2, ((0, "1"),)), (2, ((0, None),)), (2, ((0, (1,)),)), (2, (([], {}),)), (2, (("0", "1"),)),
    (2, ((0, True),)), (2, ((False, 1),)), (3, ((0, 1), (True, 2))), (3, ((0, True), (1, 2))),
    (2, deep(11)), (2, (deep(10), deep(10))), (2, ((0, deep(9)),)), (2, (deep_list(9),)),
    # too few or too many members
    (2,), (2, ((0, 1),), ()), (2, ((0, 1),), 0), (2, ((0,),)), (2, ((0, 1, 1),)), (2, ((),)),
    # n out of its bounds
    (0, ()), (1, ()), (-1, ()), (-2, ((0, 1),)), (1, ((0, 1),)), (0, ((0, 1),)),
    (41, tuple((k, k + 1) for k in range(40))), (10 ** 59 + 7, ((0, 1),)), (-10 ** 59, ((0, 1),)),
    # ties that are none, or not in order
    (3, ((1, 2), (0, 1))), (3, ((0, 2), (0, 1), (1, 2))), (3, ((0, 1), (0, 1), (1, 2))),
    (2, ((0, 1), (0, 1))), (2, ((1, 0),)), (3, ((0, 1), (2, 1))), (2, ((0, 1), (1, 0))),
    (2, ((0, 0),)), (2, ((0, 1), (1, 1))), (2, ((0, 2),)), (2, ((0, 1), (0, 2))),
    (3, ((0, 1), (1, 3))), (3, ((-1, 1), (0, 1), (0, 2))), (3, ((0, -1), (0, 1), (0, 2))),
    (2, ((0, 10 ** 59),)), (2, ((-10 ** 59, 1), (0, 1))), (3, ((0, 1), (1, 2), (2, 3))),
    # parts that hang together with nothing
    (2, ()), (3, ((0, 1),)), (3, ((1, 2),)), (4, ((0, 1), (2, 3))), (4, ((1, 2), (1, 3), (2, 3))),
    (6, ((0, 1), (0, 2), (1, 2), (3, 4), (3, 5), (4, 5))), (40, ((0, 1),)), (40, ()),
    (40, tuple((k, k + 1) for k in range(38))),
]

NO_NUMBERS = [
    None, True, False, "", "0", "1", b"1", (), (0,), (1,), [], [0], [1], {}, {0: 1}, {1: 0},
    deep(12), deep_list(12), 10 ** 59, -10 ** 59, -1, -2,
]

# What is neither a standing nor a loose one of a web of four bays.
NO_LOOSE = ANYTHING + [
    # a list or another kind for a tuple
    [0, 7, 8, 9], [7, 8, 9, 0], {0: 7, 1: 8, 2: 9, 3: 0}, "0789", ((0, 7, 8, 9),), [(0, 7, 8, 9)],
    # a wrong length
    (0,), (7,), (0, 7), (0, 7, 8), (0, 7, 8, 9, 10), (0, 7, 8, 9, 0), tuple(range(40)), tuple(range(20000)),
    # two empty bays, or none, or more
    (0, 0, 8, 9), (7, 0, 8, 0), (0, 0, 0, 0), (0, 0, 0, 7), (7, 8, 9, 10), (7, 7, 7, 7), (1, 2, 3, 4),
    # members that are no pieces
    (0, 7, 8, 1000), (0, 1000, 8, 9), (1001, 0, 8, 9), (0, 7, 8, -1), (0, -7, 8, 9), (-1, 0, 8, 9),
    (0, 7, 8, 10 ** 60), (-10 ** 60, 0, 7, 8), (0, 7, 8, True), (True, 0, 8, 9), (False, 7, 8, 9),
    (7, 8, 9, False), (0, False, 8, 9), (0, 7, 8, "9"), ("0", 7, 8, 9), ("", 7, 8, 9), (0, 7, 8, ""),
    (0, 7, 8, None), (None, 7, 8, 9), (0, None, None, None), (0, 7, 8, (9,)), ((0,), 7, 8, 9), ((), 7, 8, 9),
    (0, 7, 8, [9]), ([], 7, 8, 9), (0, 7, 8, {}), ({}, 7, 8, 9), (0, 7, 8, b"9"),
    (0, 7, 8, deep(11)), (0, deep_list(11), 8, 9), (deep(11), 7, 8, 9), (deep(11), deep(11), deep_list(11), ()),
]

# These are loose standings of a web of four bays, but no standings.
LOOSE_ONLY = [
    (0, 7, 7, 9), (7, 0, 9, 7), (9, 9, 0, 9), (1, 1, 1, 0), (0, 999, 1, 999), (999, 999, 999, 0),
]

NO_MOVES = [thing for thing in ANYTHING if thing != []] + [
    # a tuple or another kind for a list
    (1,), (1, 2), (0, 1, 2), {1: 2}, "12", "1", b"12", ([1],), ([1], [2]),
    # members that are no bays of a web of four bays
    [4], [-1], [1, 4], [4, 1], [1, 2, 0, 4], [1, 2, 0, -1], [10 ** 60], [-10 ** 60, 1], [1, 40],
    [True], [False], [1, True], [True, 2], [1, 2, False], ["1"], [""], ["1", "2"], [1, "2"], [b"1"],
    [None], [1, None], [(1,)], [1, (2,)], [(1, 2)], [[1, 2]], [1, [2]], [[]], [()], [{}], [{1: 2}],
    [deep(11)], [1, deep_list(10)], [deep_list(10), deep_list(10)],
    # and behind a move that is bad
    [3, 4], [0, 4], [3, -1], [3, True], [0, None], [3, 0, 3, "1"], [2, 2, 2, []],
]
