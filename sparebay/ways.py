"""Ways: the moves from a standing to another one, where little is to be turned."""

from sparebay.blocks import kind_of, round_from, rows_within
from sparebay.errors import TooGreat
from sparebay.graphs import path_back, path_between, rows_of
from sparebay.judges import verdicts
from sparebay.orders import orders_held
from sparebay.searches import fewest_moves, front_behind
from sparebay.slides import led_to
from sparebay.standings import need_loose, need_match
from sparebay.webs import need_web

FEW_BAYS = 7


def way(web, one, other):
    """Return moves from one to other, or None if there are none."""
    need_match(web, one, other)
    if verdicts(web, one, other)[0] != ("goes", 0):
        return None
    rows = rows_of(web)
    before = orders_held(rows, led_to(rows, one, 0))
    after = orders_held(rows, led_to(rows, other, 0))
    moves = path_between(rows, one.index(0), 0)
    for k, (block, order) in enumerate(before):
        wanted = after[k][1]
        if order != wanted:
            moves += tour_for(rows, block, order, wanted)
    return moves + path_back(rows, 0, other.index(0))


def fewest(web, one, other):
    """Return as few moves from one to other as can be, or None if there are none."""
    need_match(web, one, other)
    need_few_bays(web)
    return fewest_moves(rows_of(web), one, other)


def levels(web, loose):
    """Return how many loose standings take so many moves, for no move, for one, and so on."""
    need_web(web)
    need_loose(web, loose)
    need_few_bays(web)
    rows = rows_of(web)
    ahead = {loose: None}
    front = [loose]
    found = []
    while front:
        found.append(len(front))
        front = front_behind(rows, front, ahead)
    return found


def need_few_bays(web):
    """Raise TooGreat for a web in which not all that moves reach is looked through."""
    if web[0] > FEW_BAYS:
        raise TooGreat("the web has more than seven bays")


def tour_for(rows, block, order, wanted):
    """Return a tour from bay 0 that brings the order of a block into another one."""
    gate = block[order.index(0)]
    turning = moves_within(rows, block, order, wanted)
    # Back on the very way there, so that no other block's pieces are turned.
    return path_between(rows, 0, gate) + turning + path_back(rows, gate, 0)


def moves_within(rows, block, order, wanted):
    """Return moves within a block, from its gate and back, from an order to another one."""
    if kind_of(rows, block) == "ring":
        return rounds_made(rows, block, order, wanted)
    if len(block) > FEW_BAYS:
        raise TooGreat("a block that is to be turned has more than seven bays")
    return [block[place] for place in fewest_moves(rows_within(rows, block), order, wanted)]


def rounds_made(rows, block, order, wanted):
    """Return the moves round a ring, again and again, from an order to another one."""
    gate = block[order.index(0)]
    bays = round_from(rows, block, gate)[1:]
    pieces = [order[block.index(bay)] for bay in bays]
    # Each round brings what is first behind the gate to the end.
    times = pieces.index(wanted[block.index(bays[0])])
    return (bays + [gate]) * times
