"""Blocks: the parts of a web whose ties lie together on rings."""

from sparebay.errors import NoBlock
from sparebay.graphs import blocks_with_gates, is_whole, rows_of, two_sides
from sparebay.webs import need_web


def blocks(web):
    """Return the ascending list of all blocks."""
    need_web(web)
    return [block for block, _ in blocks_with_gates(rows_of(web))]


def gates(web):
    """Return the list of the gates, in the order of the blocks."""
    need_web(web)
    return [gate for _, gate in blocks_with_gates(rows_of(web))]


def kinds(web):
    """Return the list of the kinds, in the order of the blocks."""
    need_web(web)
    rows = rows_of(web)
    return [kind_of(rows, block) for block, _ in blocks_with_gates(rows)]


def round_of(web, k):
    """Return the bays of the ring that is block number k as a round."""
    need_web(web)
    rows = rows_of(web)
    parts = blocks_with_gates(rows)
    if not is_whole(k) or not 0 <= k < len(parts):
        raise NoBlock("this is not the number of a block")
    block, gate = parts[k]
    if kind_of(rows, block) != "ring":
        raise NoBlock("the block of this number is not a ring")
    return round_from(rows, block, gate)


def kind_of(rows, block):
    """Return the kind of a block."""
    inner = rows_within(rows, block)
    if len(block) == 2:
        return "bridge"
    if all([len(row) == 2 for row in inner]):
        return "ring"
    if ways_of_seven(inner):
        return "seven"
    if two_sides(inner) is not None:
        return "even"
    return "all"


def rows_within(rows, block):
    """Return the rows of a block by itself, its bays numbered from 0 in order."""
    places = {bay: place for place, bay in enumerate(block)}
    return [[places[near] for near in rows[bay] if near in places] for bay in block]


def ways_of_seven(inner):
    """Tell whether a block by itself is seven bays on ways of one, two and two."""
    forks = forks_of(inner)
    if len(inner) != 7 or sum([len(row) for row in inner]) != 2 * 8:
        return False
    # A block with just one tie more than bays is three ways between two forks.
    passed = [len(bays_passed(inner, forks[0], near)) for near in inner[forks[0]]]
    return sorted(passed) == [1, 2, 2]


def forks_of(inner):
    """Return the bays of a block by itself that are tied to more than two others."""
    return [bay for bay in range(len(inner)) if len(inner[bay]) > 2]


def bays_passed(inner, fork, near):
    """Return the bays on a way from a fork, by the bay near, up to a fork."""
    passed = []
    behind = fork
    at = near
    while len(inner[at]) == 2:
        passed.append(at)
        ahead = [bay for bay in inner[at] if bay != behind]
        behind = at
        at = ahead[0]
    return passed


def round_from(rows, block, gate):
    """Return the bays of a ring, the gate first, then its lesser neighbour."""
    found = [gate]
    ahead = [near for near in rows[gate] if near in block]
    while ahead:
        at = ahead[0]
        found.append(at)
        ahead = [near for near in rows[at] if near in block and near not in found]
    return found
