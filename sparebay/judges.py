"""Judges: whether a standing leads to another one, and what bars it if not."""

from sparebay.blocks import kind_of
from sparebay.graphs import is_whole, rows_of
from sparebay.orders import first_orders
from sparebay.slides import led_to
from sparebay.standings import need_match

# The word for pieces that do not stand as a block of this kind asks.
WORDS = {"ring": "ring", "seven": "class", "even": "sign"}


def judge(web, one, other):
    """Return ("goes", 0) if one leads to other, else the first bar."""
    need_match(web, one, other)
    return verdicts(web, one, other)[0]


def shows_judged(web, one, other, thing):
    """Tell whether a thing is ("goes", 0), if one leads to other, or any bar."""
    need_match(web, one, other)
    if not isinstance(thing, tuple) or len(thing) != 2:
        return False
    # In a comparison alone True would be 1.
    if not is_whole(thing[1]):
        return False
    return thing in verdicts(web, one, other)


def verdicts(web, one, other):
    """Return the list of all bars, the first one first, or of ("goes", 0) alone."""
    rows = rows_of(web)
    before = first_orders(rows, led_to(rows, one, 0))
    after = first_orders(rows, led_to(rows, other, 0))
    strays = []
    bars = []
    for k, (block, order) in enumerate(before):
        wanted = after[k][1]
        gone = [piece for piece in order if piece not in wanted]
        strays += gone
        if not gone and order != wanted:
            bars.append((WORDS[kind_of(rows, block)], k))
    found = [("held", piece) for piece in sorted(strays)] + bars
    return found if found else [("goes", 0)]
