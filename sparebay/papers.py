"""Papers: what shows that a standing does not lead to another one, looked at by itself.

What is told of a paper is what follows its word. It may be anything; the web and
the standings are right, as in sparebay.graphs.
"""

from sparebay.graphs import is_whole, rows_of, steps_from
from sparebay.orders import is_odd
from sparebay.slides import led_to
from sparebay.webs import is_bay

# The names of the bays of a paper "class", and the rows of pairs of them.
NAMES = "uavbcde"
TIED = ("ua", "av", "ub", "bc", "cv", "ud", "de", "ev")
PAIRS = ("de ac bv", "ad be cv", "bd ce av", "cd ev ab", "dv ae bc")


def shows_held(web, one, other, told):
    """Tell whether a piece and a bay are such that the bay parts the piece from its place."""
    if len(told) != 2 or not is_bay(web, told[1]):
        return False
    piece, bay = told
    if not is_whole(piece) or piece == 0 or piece not in one:
        return False
    rows = rows_of(web)
    before = led_to(rows, one, bay).index(piece)
    after = led_to(rows, other, bay).index(piece)
    left = [[near for near in row if near != bay] for row in rows]
    return steps_from(left, before)[after] < 0


def shows_ring(web, one, other, told):
    """Tell whether these are the bays of a ring whose pieces are not turned alone."""
    if len(told) != 1 or not are_different_bays(web, told[0]) or len(told[0]) < 3:
        return False
    bays = told[0]
    rows = rows_of(web)
    ties = [(bays[k - 1], bays[k]) for k in range(len(bays))]
    if not are_tied(rows, ties) or not are_parted(rows, bays, ties):
        return False
    before, after = pieces_behind(rows, one, other, bays)
    turns = [before[k:] + before[:k] for k in range(len(before))]
    return sorted(before) == sorted(after) and after not in turns


def shows_sign(web, one, other, told):
    """Tell whether these are two sides whose pieces are swapped an odd number of times."""
    if len(told) != 2 or not all([are_different_bays(web, side) for side in told]):
        return False
    first, second = told
    if not first or sorted(first) != list(first) or sorted(second) != list(second):
        return False
    rows = rows_of(web)
    ties = [(a, b) for a in first for b in second if b in rows[a]]
    # Bays of one side that are tied, and a bay of both sides, are not parted either.
    if not are_parted(rows, first + second, ties):
        return False
    before, after = pieces_behind(rows, one, other, first + second)
    return sorted(before) == sorted(after) and is_odd(before) != is_odd(after)


def shows_class(web, one, other, told):
    """Tell whether these are the bays of a seven whose pieces are paired otherwise."""
    if len(told) != len(NAMES) or not are_different_bays(web, told):
        return False
    rows = rows_of(web)
    ties = [(told[NAMES.index(a)], told[NAMES.index(b)]) for a, b in TIED]
    if not are_tied(rows, ties) or not are_parted(rows, told, ties):
        return False
    before, after = pieces_behind(rows, one, other, told)
    return sorted(before) == sorted(after) and paired(before) != paired(after)


def are_different_bays(web, thing):
    """Tell whether a thing is a tuple of bays of the web, none of them twice."""
    if not isinstance(thing, tuple) or not all([is_bay(web, bay) for bay in thing]):
        return False
    return len(set(thing)) == len(thing)


def are_tied(rows, ties):
    """Tell whether bays are tied as some ties have it."""
    return all([b in rows[a] for a, b in ties])


def are_parted(rows, bays, ties):
    """Tell whether no two of some bays are joined without some ties, nor are the same."""
    gone = {}
    for a, b in ties:
        gone[(a, b)] = True
        gone[(b, a)] = True
    left = [[near for near in row if (bay, near) not in gone] for bay, row in enumerate(rows)]
    for start in bays:
        away = steps_from(left, start)
        if [end for end in bays if away[end] >= 0] != [start]:
            return False
    return True


def pieces_behind(rows, one, other, bays):
    """Return for both standings, led to the first of some bays, the pieces at the others."""
    before = led_to(rows, one, bays[0])
    after = led_to(rows, other, bays[0])
    return [before[bay] for bay in bays[1:]], [after[bay] for bay in bays[1:]]


def paired(pieces):
    """Return the rows of pairs of six pieces, in an order that depends on the pairs alone."""
    held = {name: piece for name, piece in zip(NAMES[1:], pieces)}
    rows = []
    for pairs in PAIRS:
        rows.append(sorted([sorted([held[a], held[b]]) for a, b in pairs.split()]))
    return sorted(rows)
