"""What the other modules share: webs as rows of neighbours, and their blocks.

Nothing here looks whether its arguments are right: the functions of the
interface do that first.
"""


def is_whole(thing):
    """Tell whether a thing is an integer, and neither True nor False."""
    return isinstance(thing, int) and not isinstance(thing, bool)


def rows_of(web):
    """Return for each bay the ascending list of the bays that are tied to it."""
    n, ties = web
    rows = [[] for _ in range(n)]
    # The ties ascend, so each row gets its lesser bays first, and all in order.
    for a, b in ties:
        rows[a].append(b)
        rows[b].append(a)
    return rows


def with_tie(web, a, b):
    """Return a web with one tie more."""
    n, ties = web
    return (n, tuple(sorted([*ties, (a, b)])))


def steps_from(rows, start):
    """Return for each bay how many ties it is away from start, -1 for no way."""
    away = [-1] * len(rows)
    away[start] = 0
    front = [start]
    while front:
        following = []
        for bay in front:
            for near in rows[bay]:
                if away[near] < 0:
                    away[near] = away[bay] + 1
                    following.append(near)
        front = following
    return away


def path_between(rows, a, b):
    """Return the first of the shortest ways from a to b, without a."""
    left = steps_from(rows, b)
    path = []
    at = a
    while at != b:
        nearer = [near for near in rows[at] if left[near] < left[at]]
        at = nearer[0]
        path.append(at)
    return path


def path_back(rows, a, b):
    """Return the bays from a to b, without a, on the way by which b leads to a."""
    there = [b] + path_between(rows, b, a)
    return there[::-1][1:]


def two_sides(rows):
    """Return 0 or 1 for each bay so that ties join unlike ones, or None."""
    # Once bay 0 has its side, each other bay's side follows from its distance.
    marks = [steps % 2 for steps in steps_from(rows, 0)]
    for bay, row in enumerate(rows):
        if any([marks[near] == marks[bay] for near in row]):
            return None
    return tuple(marks)


def bays_above(rows, away):
    """Return for each bay a bay tied to it and one tie nearer to bay 0."""
    above = [0]
    for bay in range(1, len(rows)):
        nearer = [near for near in rows[bay] if away[near] < away[bay]]
        above.append(nearer[0])
    return above


def bays_climbed(above, away, a, b):
    """Return the bays on the ways up from a and from b, but not where they meet."""
    climbed = []
    while a != b:
        if away[a] < away[b]:
            a, b = b, a
        climbed.append(a)
        a = above[a]
    return climbed


def groups_held(rows, above, away):
    """Return for each bay but 0 a number, the same for those one block holds.

    Each bay but 0 stands for the tie to the bay above it. A further tie makes
    a ring with such ties, so these belong to one block; and as every ring is
    a sum of such rings, what none of them joins belongs to different blocks.
    """
    groups = list(range(len(rows)))
    for a, row in enumerate(rows):
        for b in row:
            joined = [groups[bay] for bay in bays_climbed(above, away, a, b)]
            if len(set(joined)) > 1:
                groups = [joined[0] if group in joined else group for group in groups]
    return groups


def blocks_with_gates(rows):
    """Return a tuple (block, gate) for each block, the blocks ascending."""
    away = steps_from(rows, 0)
    above = bays_above(rows, away)
    groups = groups_held(rows, above, away)
    found = []
    for group in sorted(set(groups[1:])):
        held = [bay for bay in range(1, len(rows)) if groups[bay] == group]
        # The block is entered by its gate, which is above the nearest held bay.
        gate = above[min(held, key=lambda bay: away[bay])]
        found.append((tuple(sorted([gate] + held)), gate))
    return sorted(found)
