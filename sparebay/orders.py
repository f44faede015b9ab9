"""Orders: how the pieces that a block holds stand, the empty bay being at its gate.

An order is a tuple with what stands at each bay of the block, the bays
ascending: 0 at the gate, and elsewhere the pieces. One order can be brought
into another one exactly if the first of all that each can be brought into is
the same.
"""

from sparebay.blocks import kind_of, rows_within
from sparebay.graphs import blocks_with_gates
from sparebay.slides import slid, tour_over


def orders_held(rows, loose):
    """Return (block, order) for each block of a loose standing.

    Its empty bay is bay 0. From there it comes to the gate of a block without
    a move of what the block holds.
    """
    found = []
    for block, gate in blocks_with_gates(rows):
        found.append((block, tuple([0 if bay == gate else loose[bay] for bay in block])))
    return found


def put_together(many, orders):
    """Return the loose standing of so many bays, bay 0 empty, whose blocks have these orders."""
    found = [0] * many
    for block, order in orders:
        for bay, piece in zip(block, order):
            # A gate that is empty in this block has a piece of the block that holds it.
            if piece:
                found[bay] = piece
    return tuple(found)


def first_orders(rows, standing):
    """Return (block, order) for each block: the first order that its pieces can have."""
    return [(block, first_order(rows, block, order)) for block, order in orders_held(rows, standing)]


def first_order(rows, block, order):
    """Return the first order into which moves within a block bring an order."""
    kind = kind_of(rows, block)
    if kind in ("ring", "seven"):
        return min(orders_made(order, turns_within(rows, block, order.index(0))))
    pieces = sorted(order)[1:]
    if kind == "even" and is_odd(order):
        # The first of the odd orders: what comes last is all that is not sorted.
        pieces[-2:] = [pieces[-1], pieces[-2]]
    pieces.insert(order.index(0), 0)
    return tuple(pieces)


def is_odd(order):
    """Tell whether an odd number of swaps sorts the pieces of an order."""
    pieces = [piece for piece in order if piece]
    many = 0
    for place, piece in enumerate(pieces):
        many += len([later for later in pieces[place:] if later < piece])
    return many % 2 == 1


def turns_within(rows, block, start):
    """Return turns from which all that tours within a block do can be put together.

    A turn tells for each place of the block, start being that of the gate,
    from which place the piece comes that stands there after the tour.
    """
    inner = rows_within(rows, block)
    places = list(range(len(block)))
    ties = [(a, b) for a in places for b in inner[a] if a < b]
    turns = [slid(places, start, tour_over(inner, start, a, b)) for a, b in ties]
    # A tour over a tie of its own way out or back moves no piece for good.
    return [turn for turn in turns if turn != places]


def orders_made(order, turns):
    """Return all orders into which turns, done again and again, bring an order."""
    found = {order: True}
    front = [order]
    while front:
        before = front.pop()
        for turn in turns:
            after = tuple([before[place] for place in turn])
            if after not in found:
                found[after] = True
                front.append(after)
    return list(found)
