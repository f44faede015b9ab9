"""Webs that several tests use: small ones of each kind of block, and great ones."""

from tests.reference import web_of

RING = (4, ((0, 1), (0, 3), (1, 2), (2, 3)))
EVEN = (5, ((0, 2), (0, 3), (0, 4), (1, 2), (1, 3), (1, 4)))
ALL = (4, ((0, 1), (0, 2), (0, 3), (1, 2), (2, 3)))
SEVEN = web_of(7, [(0, 1), (1, 2), (0, 3), (3, 4), (4, 2), (0, 5), (5, 6), (6, 2)])

PATH = (40, tuple((k, k + 1) for k in range(39)))
STAR = (40, tuple((0, k) for k in range(1, 40)))
ROUND = web_of(40, [(k, (k + 1) % 40) for k in range(40)])
FULL = (40, tuple((a, b) for a in range(40) for b in range(a + 1, 40)))
GRID = web_of(40, [(k, k + 1) for k in range(39) if k % 8 != 7] + [(k, k + 8) for k in range(32)])
GRID_AND_TIE = web_of(40, list(GRID[1]) + [(30, 39)])
CHAIN = web_of(40, [tie for k in range(0, 39, 3)
                    for tie in [(k, k + 1), (k + 1, k + 2), (k + 2, k + 3), (k, k + 3)]])
GREAT = [PATH, STAR, ROUND, FULL, GRID, GRID_AND_TIE, CHAIN]

SMALL = [
    (2, ((0, 1),)),
    # trees
    (3, ((0, 1), (0, 2))), (3, ((0, 2), (1, 2))), (5, ((0, 4), (1, 2), (1, 4), (3, 4))),
    # one block: rings, even ones, "all" ones
    (3, ((0, 1), (0, 2), (1, 2))), RING,
    web_of(5, [(0, 3), (3, 1), (1, 4), (4, 2), (2, 0)]),
    web_of(6, [(0, 4), (4, 2), (2, 1), (1, 5), (5, 3), (3, 0)]),
    EVEN, web_of(6, [(0, 1), (1, 2), (2, 3), (3, 4), (4, 5), (0, 5), (0, 3)]),
    web_of(6, [(a, b) for a in (0, 2, 5) for b in (1, 3, 4)]),
    ALL, web_of(5, [(0, 1), (1, 2), (2, 3), (3, 4), (0, 4), (1, 4)]),
    web_of(6, [(0, 1), (1, 2), (2, 3), (3, 4), (4, 5), (0, 5), (3, 5)]),
    # several blocks, bay 0 within one of them
    (4, ((0, 1), (0, 2), (1, 2), (2, 3))),
    web_of(5, [(0, 3), (3, 1), (1, 2), (2, 4), (4, 1)]),
    web_of(6, [(0, 4), (4, 1), (1, 5), (5, 0), (5, 2), (2, 3), (3, 5)]),
    web_of(6, [(0, 5), (5, 1), (5, 2), (5, 3), (1, 4), (2, 4), (3, 4)]),
    web_of(6, [(0, 1), (1, 2), (2, 3), (3, 4), (4, 5), (5, 2)]),
    web_of(6, [(0, 3), (3, 4), (4, 0), (4, 1), (1, 5), (5, 2)]),
    web_of(6, [(3, 0), (0, 1), (1, 3), (3, 5), (5, 4), (4, 2), (2, 3), (2, 5)]),
    # several blocks that share bay 0
    web_of(5, [(0, 1), (1, 3), (3, 0), (0, 2), (2, 4), (4, 0)]),
    web_of(6, [(0, 2), (2, 5), (5, 1), (1, 0), (0, 3), (3, 4), (4, 0)]),
    web_of(6, [(0, 5), (0, 1), (1, 2), (2, 0), (0, 3), (0, 4)]),
    web_of(6, [(0, 3), (0, 1), (1, 2), (2, 4), (4, 0), (0, 2), (0, 5)]),
]

# The seven: bay 0 at a fork, alone on a way, and on a way of two bays.
SEVENS = [
    SEVEN,
    web_of(7, [(3, 0), (0, 6), (3, 1), (1, 5), (5, 6), (3, 2), (2, 4), (4, 6)]),
    web_of(7, [(6, 2), (2, 5), (6, 0), (0, 1), (1, 5), (6, 4), (4, 3), (3, 5)]),
]
OF_SEVEN_BAYS = [
    web_of(7, [(k * 3 % 7, (k + 1) * 3 % 7) for k in range(7)]),
    web_of(7, [(0, 4), (4, 1), (1, 0), (1, 5), (5, 2), (2, 6), (6, 3), (3, 1)]),
    web_of(7, [(0, 1), (1, 2), (2, 3), (3, 0), (0, 4), (4, 5), (5, 6), (6, 0)]),
    web_of(7, [(0, 6), (6, 1), (6, 2), (6, 3), (5, 1), (5, 2), (5, 3), (5, 4)]),
    web_of(7, [(0, 1), (1, 2), (2, 3), (3, 4), (4, 5), (5, 6), (6, 0), (0, 3)]),
    web_of(7, [(5, 1), (1, 6), (5, 3), (3, 6), (5, 0), (0, 2), (2, 4), (4, 6)]),
    web_of(7, [(0, 1), (1, 2), (2, 3), (3, 4), (4, 5), (5, 6), (6, 0), (0, 2)]),
]

BRIDGE = (2, ((0, 1),))
# One block each, of up to seven bays and of each kind.
BLOCKS = [
    BRIDGE, (3, ((0, 1), (0, 2), (1, 2))), RING, web_of(7, [(k, (k + 1) % 7) for k in range(7)]),
    EVEN, web_of(6, [(a, b) for a in (0, 2, 5) for b in (1, 3, 4)]),
    web_of(7, [(a, b) for a in (0, 1, 2) for b in (3, 4, 5, 6)]),
    ALL, web_of(6, [(0, 1), (1, 2), (2, 3), (3, 4), (4, 5), (0, 5), (3, 5)]),
    web_of(7, [(a, b) for a in range(7) for b in range(a)]), SEVEN,
]
# Blocks of more than seven bays: an even one, an "all" one, a ring.
GREAT_BLOCKS = [
    web_of(8, [(a, b) for a in (0, 1) for b in range(2, 8)]),
    web_of(9, [(k, (k + 1) % 9) for k in range(9)] + [(0, 3), (0, 5)]),
    web_of(12, [(k, (k + 1) % 12) for k in range(12)]),
]


def put_together(parts, random):
    """A web of blocks put together at bays, its bays named anyhow; and the list of its blocks."""
    n, ties = 1, []
    blocks = []
    for many, inner in parts:
        places = list(range(n, n + many - 1))
        places.insert(random.randrange(many), random.randrange(n))
        ties += [(places[a], places[b]) for a, b in inner]
        blocks.append(places)
        n += many - 1
    names = random.sample(range(n), n)
    web = web_of(n, [(names[a], names[b]) for a, b in ties])
    return web, sorted(tuple(sorted(names[bay] for bay in block)) for block in blocks)


# Bay 0 in a ring and in a bridge; behind them a seven, an even block, an "all" one, a ring.
MIXED = web_of(23, [(0, 20), (20, 1), (1, 0), (0, 2), (2, 3)]
               + [(3, 4), (4, 5), (3, 6), (6, 7), (7, 5), (3, 8), (8, 9), (9, 5)]
               + [(5, 10), (5, 11), (5, 12), (13, 10), (13, 11), (13, 12)]
               + [(13, 14), (14, 15), (15, 16), (16, 13), (14, 16)]
               + [(15, 17), (17, 18), (18, 19), (19, 15), (19, 21), (21, 22)])
