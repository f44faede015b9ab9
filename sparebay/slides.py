"""Slides: the empty bay moved along ties, and the pieces that this moves.

Nothing here looks whether its arguments are right, as in sparebay.graphs.
"""

from sparebay.graphs import path_back, path_between


def tied_along(rows, start, moves):
    """Tell whether each of some bays is tied to the one ahead of it, the first to start."""
    at = start
    for bay in moves:
        if bay not in rows[at]:
            return False
        at = bay
    return True


def slid(pieces, empty, moves):
    """Return the list of what stands at each bay after moves of the empty bay."""
    after = list(pieces)
    at = empty
    for bay in moves:
        after[at], after[bay] = after[bay], after[at]
        at = bay
    return after


def led_to(rows, loose, bay):
    """Return a loose standing after its empty bay is led to a bay."""
    empty = loose.index(0)
    return tuple(slid(loose, empty, path_between(rows, empty, bay)))


def tour_over(rows, start, a, b):
    """Return the bays from start to a, over the tie to b, and back to start."""
    # Out to a as from a back: so all ways out and back lie on one tree.
    return path_back(rows, start, a) + [b] + path_between(rows, b, start)
