"""The words of the document, followed literally and slowly, for small webs."""

from itertools import combinations, permutations


def web_of(n, ties):
    """A web from ties in any order and direction."""
    return (n, tuple(sorted({tuple(sorted(tie)) for tie in ties})))


def near(web, bay):
    return [b if a == bay else a for a, b in web[1] if bay in (a, b)]


def reached(web, start, shut=()):
    """The bays to which ways from start lead that do not go through shut ones."""
    found = {start}
    todo = [start]
    while todo:
        for bay in near(web, todo.pop()):
            if bay not in found and bay not in shut:
                found.add(bay)
                todo.append(bay)
    return found


def all_webs(n):
    """Every web of n bays."""
    pairs = list(combinations(range(n), 2))
    for many in range(n - 1, len(pairs) + 1):
        for ties in combinations(pairs, many):
            if len(reached((n, ties), 0)) == n:
                yield (n, ties)


def ways(web, a, b, within=None):
    """Every way from a to b that passes no bay twice, as a list with both ends."""
    todo = [[a]]
    while todo:
        way = todo.pop()
        if way[-1] == b:
            yield way
            continue
        for bay in near(web, way[-1]):
            if bay not in way and (within is None or bay in within):
                todo.append(way + [bay])


def first_path(web, a, b):
    shortest = min([(len(way), way) for way in ways(web, a, b)])
    return shortest[1][1:]


def parting(bays, ties):
    """All ways to part bays into two sides so that ties join unlike ones."""
    bays = sorted(bays)
    found = []
    for bits in range(2 ** len(bays)):
        side = {bay: bits >> k & 1 for k, bay in enumerate(bays)}
        if all(side[a] != side[b] for a, b in ties):
            found.append(side)
    return found


def sides(web):
    for side in parting(range(web[0]), web[1]):
        if side[0] == 0:
            return tuple(side[bay] for bay in range(web[0]))
    return None


def blocks(web):
    """Each tie with the bays of all rings on which it lies."""
    found = set()
    for tie in web[1]:
        bays = set(tie)
        for way in ways(web, *tie):
            if len(way) > 2:
                bays.update(way)
        found.add(tuple(sorted(bays)))
    return sorted(found)


def gates(web):
    """The bay of each block that can be come to from bay 0 by no other one of it."""
    return [gate_of(web, block) for block in blocks(web)]


def gate_of(web, block):
    first = [bay for bay in block if 0 not in block or bay == 0]
    first = [bay for bay in first
             if bay in reached(web, 0, [other for other in block if other != bay])]
    assert len(first) == 1
    return first[0]


def ties_within(web, block):
    return [(a, b) for a, b in web[1] if a in block and b in block]


def seven(web, block):
    if len(block) != 7 or len(ties_within(web, block)) != 8:
        return False
    for u, v in combinations(block, 2):
        inner = [way[1:-1] for way in ways(web, u, v, block)]
        for three in combinations(inner, 3):
            passed = [bay for way in three for bay in way]
            if len(passed) == len(set(passed)) == 5 and sorted(map(len, three)) == [1, 2, 2]:
                return True
    return False


def kind(web, block):
    ties = ties_within(web, block)
    if len(block) == 2:
        return "bridge"
    if all(sum(bay in tie for tie in ties) == 2 for bay in block):
        return "ring"
    if seven(web, block):
        return "seven"
    return "even" if parting(block, ties) else "all"


def kinds(web):
    return [kind(web, block) for block in blocks(web)]


def round_of(web, k):
    """The first of all rounds of the bays of a block that begin at its gate."""
    block = blocks(web)[k]
    gate = gates(web)[k]
    rounds = []
    for rest in permutations([bay for bay in block if bay != gate]):
        bays = [gate] + list(rest)
        if all(tuple(sorted((bays[at - 1], bays[at]))) in web[1] for at in range(len(bays))):
            rounds.append(bays)
    return min(rounds)


def some_webs(many, least, most):
    """Webs of least to most bays, the same ones every time."""
    state = 20177
    found = []
    while len(found) < many:
        ties = []
        state = state * 1103515245 + 12345 & 0x7fffffff
        n = least + (state >> 12) % (most - least + 1)
        for bay in range(1, n):
            state = state * 1103515245 + 12345 & 0x7fffffff
            ties.append((bay, (state >> 12) % bay))
        state = state * 1103515245 + 12345 & 0x7fffffff
        for _ in range((state >> 12) % 5):
            state = state * 1103515245 + 12345 & 0x7fffffff
            a = (state >> 12) % n
            state = state * 1103515245 + 12345 & 0x7fffffff
            b = (state >> 12) % n
            if a != b:
                ties.append((a, b))
        names = sorted(range(n), key=lambda bay: (bay * 7919 + state) % 101)
        found.append(web_of(n, [(names[a], names[b]) for a, b in ties]))
    return found


def renamed(web, names):
    """The web with bay k called names[k]."""
    return web_of(web[0], [(names[a], names[b]) for a, b in web[1]])
