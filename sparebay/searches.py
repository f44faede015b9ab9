"""Searches: all that moves reach, for so few bays or pieces that it can be looked through.

Nothing here looks whether its arguments are right, as in sparebay.graphs.
"""

from sparebay.slides import slid


def meets(loose, wish):
    """Tell whether a loose standing has at each bay that is not open what a wish has."""
    return all([wished is None or wished == piece for piece, wished in zip(loose, wish)])


def fewest_moves(rows, loose, wish):
    """Return as few moves as can be to what meets a wish, or None if nothing does."""
    ahead = {loose: None}
    front = [loose]
    while front:
        found = [reached for reached in front if meets(reached, wish)]
        if found:
            return moves_to(found[0], ahead)
        front = front_behind(rows, front, ahead)
    return None


def front_behind(rows, front, ahead):
    """Return what one move more reaches for the first time.

    What was reached so far stands in ahead, each with the loose standing ahead
    of it, and what is new is put there.
    """
    following = []
    for before in front:
        empty = before.index(0)
        for bay in rows[empty]:
            after = tuple(slid(before, empty, [bay]))
            if after not in ahead:
                ahead[after] = before
                following.append(after)
    return following


def moves_to(loose, ahead):
    """Return the moves by which a loose standing was reached."""
    moves = []
    at = loose
    while ahead[at] is not None:
        moves.append(at.index(0))
        at = ahead[at]
    return moves[::-1]
