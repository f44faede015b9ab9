"""Standings by the words of the document: walks over moves, and bars, for small webs."""

from collections import deque
from itertools import permutations
from random import Random

from tests import reference


def standings(pieces):
    """Every standing of these pieces."""
    return list(permutations([0] + list(pieces)))


def moved(standing, bay):
    """A standing after the piece at a bay is taken into the empty bay."""
    after = list(standing)
    after[standing.index(0)] = standing[bay]
    after[bay] = 0
    return tuple(after)


def exchanged(standing, *bays):
    """A standing with the pieces at these bays each at the next one of them."""
    after = list(standing)
    for k, bay in enumerate(bays):
        after[bays[k - len(bays) + 1]] = standing[bay]
    return tuple(after)


def walked(web, standing):
    """The set of all standings that moves reach."""
    rows = [reference.near(web, bay) for bay in range(web[0])]
    found = {standing}
    todo = [standing]
    while todo:
        at = todo.pop()
        for bay in rows[at.index(0)]:
            after = moved(at, bay)
            if after not in found:
                found.add(after)
                todo.append(after)
    return found


def steps(web, standing):
    """For each standing that moves reach, by how few moves it is reached."""
    rows = [reference.near(web, bay) for bay in range(web[0])]
    found = {standing: 0}
    todo = deque([standing])
    while todo:
        at = todo.popleft()
        for bay in rows[at.index(0)]:
            after = moved(at, bay)
            if after not in found:
                found[after] = found[at] + 1
                todo.append(after)
    return found


def walks(web, pieces):
    """All sets of standings of these pieces such that moves reach all of a set."""
    found = []
    seen = set()
    for standing in standings(pieces):
        if standing not in seen:
            found.append(walked(web, standing))
            seen |= found[-1]
    return found


def led(web, standing, bay):
    for at in reference.first_path(web, standing.index(0), bay):
        standing = moved(standing, at)
    return standing


def strolled(web, standing, many, seed=1):
    """A list of so many moves, each along a tie, the same ones every time."""
    random = Random(seed)
    rows = [reference.near(web, bay) for bay in range(web[0])]
    at = standing.index(0)
    moves = []
    for _ in range(many):
        at = random.choice(rows[at])
        moves.append(at)
    return moves


def swaps(order, wanted):
    """How many swaps of two pieces bring an order into another one, done one by one."""
    order = list(order)
    many = 0
    for place, piece in enumerate(wanted):
        if order[place] != piece:
            other = order.index(piece)
            order[place], order[other] = order[other], order[place]
            many += 1
    return many


def stand_so(web, k, one, other):
    """Whether block k, which holds the same pieces in both, has them as point [6] asks.

    Bay 0 is the empty one in both.
    """
    block = reference.blocks(web)[k]
    gate = reference.gates(web)[k]
    kind = reference.kind(web, block)
    if kind == "ring":
        bays = reference.round_of(web, k)[1:]
        row = [one[bay] for bay in bays]
        return [other[bay] for bay in bays] in [row[at:] + row[:at] for at in range(len(row))]
    before = tuple(0 if bay == gate else one[bay] for bay in block)
    after = tuple(0 if bay == gate else other[bay] for bay in block)
    if kind == "seven":
        ties = [(block.index(a), block.index(b)) for a, b in reference.ties_within(web, block)]
        return after in walked((len(block), tuple(ties)), before)
    return kind != "even" or swaps(before, after) % 2 == 0


def bars(web, one, other):
    """All bars between two standings of the same pieces, in the order of the document."""
    one, other = led(web, one, 0), led(web, other, 0)
    words = {"ring": "ring", "seven": "class", "even": "sign"}
    strays = []
    found = []
    for k, (block, gate) in enumerate(zip(reference.blocks(web), reference.gates(web))):
        first = {one[bay] for bay in block if bay != gate}
        second = {other[bay] for bay in block if bay != gate}
        strays += [("held", piece) for piece in first - second]
        if first == second and not stand_so(web, k, one, other):
            found.append((words[reference.kind(web, block)], k))
    return sorted(strays) + found
