"""Papers by the words of the document alone: any thing is looked at, without blocks."""

from itertools import combinations, permutations

from sparebay.standings import led
from tests import reference, walks


def whole(thing):
    return isinstance(thing, int) and not isinstance(thing, bool)


def bay_of(web, thing):
    return whole(thing) and 0 <= thing < web[0]


def bays_of(web, thing):
    """Whether a thing is a tuple of different bays."""
    return isinstance(thing, tuple) and all(bay_of(web, bay) for bay in thing) and len(set(thing)) == len(thing)


def joined(web, a, b, ties=(), shut=()):
    """Whether a way leads from a to b without these ties, and not through shut bays."""
    gone = {tuple(sorted(tie)) for tie in ties}
    rest = (web[0], tuple(tie for tie in web[1] if tie not in gone))
    return b in reference.reached(rest, a, shut)


def any_joined(web, bays, ties):
    return any(joined(web, a, b, ties) for a, b in combinations(bays, 2))


def tied(web, a, b):
    return tuple(sorted((a, b))) in web[1]


def behind(web, one, other, bays):
    """The pieces at all bays but the first, both led to the first."""
    return [[led(web, standing, bays[0])[bay] for bay in bays[1:]] for standing in (one, other)]


def shows_held(web, one, other, thing):
    _, p, c = thing
    if not whole(p) or not 1 <= p <= 999 or p not in one or not bay_of(web, c):
        return False
    first, second = led(web, one, c).index(p), led(web, other, c).index(p)
    return not joined(web, first, second, shut=(c,))


def shows_ring(web, one, other, thing):
    _, bays = thing
    if not bays_of(web, bays) or len(bays) < 3:
        return False
    ties = list(zip(bays, bays[1:] + bays[:1]))
    if not all(tied(web, a, b) for a, b in ties) or any_joined(web, bays, ties):
        return False
    first, second = behind(web, one, other, bays)
    if set(first) != set(second):
        return False
    return all(first[k:] + first[:k] != second for k in range(len(first)))


def shows_sign(web, one, other, thing):
    _, first, second = thing
    if not bays_of(web, first) or not bays_of(web, second) or not first or set(first) & set(second):
        return False
    if list(first) != sorted(first) or list(second) != sorted(second):
        return False
    if any(tied(web, a, b) for side in (first, second) for a, b in combinations(side, 2)):
        return False
    if any_joined(web, first + second, [(a, b) for a in first for b in second if tied(web, a, b)]):
        return False
    before, after = behind(web, one, other, first + second)
    return set(before) == set(after) and walks.swaps(before, after) % 2 == 1


def shows_class(web, one, other, thing):
    _, *bays = thing
    if not bays_of(web, tuple(bays)) or len(bays) != 7:
        return False
    u, a, v, b, c, d, e = bays
    ties = [(u, a), (a, v), (u, b), (b, c), (c, v), (u, d), (d, e), (e, v)]
    if not all(tied(web, x, y) for x, y in ties) or any_joined(web, bays, ties):
        return False
    before, after = behind(web, one, other, bays)
    if set(before) != set(after):
        return False
    rows = [((d, e), (a, c), (b, v)), ((a, d), (b, e), (c, v)), ((b, d), (c, e), (a, v)),
            ((c, d), (e, v), (a, b)), ((d, v), (a, e), (b, c))]
    sets = []
    for pieces in (before, after):
        at = dict(zip(bays[1:], pieces))
        sets.append({frozenset(frozenset((at[x], at[y])) for x, y in row) for row in rows})
    return sets[0] != sets[1]


def is_paper(web, one, other, thing):
    if not isinstance(thing, tuple) or not thing or not isinstance(thing[0], str):
        return False
    shows = {("held", 3): shows_held, ("ring", 2): shows_ring, ("sign", 3): shows_sign, ("class", 8): shows_class}
    if (thing[0], len(thing)) not in shows:
        return False
    return shows[thing[0], len(thing)](web, one, other, thing)


def held_ones(web):
    return [("held", p, c) for p in range(-1, web[0] + 1) for c in range(-1, web[0] + 1)]


def ring_ones(web):
    """Each row of different bays, or, if there are many, each that misses at most one tie of a ring."""
    for many in range(2, web[0] + 1):
        for bays in permutations(range(web[0]), many):
            missed = sum(not tied(web, a, b) for a, b in zip(bays, bays[1:] + bays[:1]))
            if web[0] < 5 or missed < 2:
                yield ("ring", bays)


def sign_ones(web):
    """Each two ascending tuples of bays without a bay in common."""
    for places in range(3 ** web[0]):
        sides = [[], [], []]
        for bay in range(web[0]):
            sides[places // 3 ** bay % 3].append(bay)
        yield ("sign", tuple(sides[0]), tuple(sides[1]))


def class_ones(web):
    """Each naming of seven bays by which the eight ties are there."""
    for bays in permutations(range(web[0]), 7):
        u, a, v, b, c, d, e = bays
        ties = [(u, a), (a, v), (u, b), (b, c), (c, v), (u, d), (d, e), (e, v)]
        if all(tied(web, x, y) for x, y in ties):
            yield ("class", *bays)


def altered(thing, random):
    """Things that are like a paper, but with a part replaced, left out, put in, or of another kind."""
    found = []
    spare = [0, 1, 2, -1, 7, 40, True, False, None, "", "0", (), [], (0,), [0], "held", "ring", "sign", "class", 10 ** 60]
    for k in range(len(thing)):
        found += [thing[:k] + thing[k + 1:], thing[:k] + (random.choice(spare),) + thing[k + 1:]]
        found += [thing[:k] + (random.choice(spare),) + thing[k:], thing[:k] + (thing[k],) + thing[k:]]
        found.append(thing[:k] + ((thing[k],),) + thing[k + 1:])
        if whole(thing[k]):
            for part in (thing[k] + 1, thing[k] - 1, str(thing[k]), -thing[k], [thing[k]], thing[k] == 1):
                found.append(thing[:k] + (part,) + thing[k + 1:])
        if isinstance(thing[k], tuple):
            part = thing[k]
            found.append(thing[:k] + (list(part),) + thing[k + 1:])
            found.append(thing[:k] + (part[::-1],) + thing[k + 1:])
            found.append(thing[:k] + (part[1:] + part[:1],) + thing[k + 1:])
            found.append(thing[:k] + (tuple(True if bay == 1 else bay for bay in part),) + thing[k + 1:])
            found.append(thing[:k] + (tuple(False if bay == 0 else bay for bay in part),) + thing[k + 1:])
            for at in range(len(part)):
                new = random.choice(spare)
                found.append(thing[:k] + (part[:at] + part[at + 1:],) + thing[k + 1:])
                found.append(thing[:k] + (part[:at] + (new,) + part[at + 1:],) + thing[k + 1:])
                found.append(thing[:k] + (part[:at] + (part[at],) + part[at:],) + thing[k + 1:])
                found.append(thing[:k] + (part[:at] + (part[at] + 1,) + part[at + 1:],) + thing[k + 1:])
    found += [thing[::-1], thing[1:] + thing[:1], list(thing), (thing,), [thing], thing + thing, {thing[0]: 1}]
    found += [(word,) + thing[1:] for word in ("held", "ring", "sign", "class", "goes", "Held", None, True, 0, (), ["ring"])]
    return found
