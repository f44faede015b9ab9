"""Counts: how many loose standings moves reach, and how many classes there are."""

from math import factorial

from sparebay.blocks import kind_of
from sparebay.graphs import rows_of, with_tie
from sparebay.orders import orders_held, orders_made, turns_within
from sparebay.slides import led_to
from sparebay.standings import need_loose, no_two_alike
from sparebay.webs import need_web


def how_many(web, loose):
    """Return how many loose standings there are to which a loose one leads."""
    need_web(web)
    need_loose(web, loose)
    return standings_reached(rows_of(web), loose)


def classes(web):
    """Return how many normal forms there are for given pieces, all different."""
    need_web(web)
    return classes_of(rows_of(web))


def mends(web):
    """Return the ascending list of the ties that, put to the web, make its classes 1."""
    need_web(web)
    n, ties = web
    found = []
    for a in range(n):
        for b in range(a + 1, n):
            if (a, b) not in ties and classes_of(rows_of(with_tie(web, a, b))) == 1:
                found.append((a, b))
    return found


def standings_reached(rows, loose):
    """Return how many loose standings there are to which a loose one leads."""
    many = len(rows)
    for block, order in orders_held(rows, led_to(rows, loose, 0)):
        many *= orders_reached(rows, block, order)
    return many


def classes_of(rows):
    """Return how many normal forms there are for given pieces, all different."""
    # Each class has as many standings as any other one.
    return factorial(len(rows)) // standings_reached(rows, tuple(range(len(rows))))


def orders_reached(rows, block, order):
    """Return how many different orders moves within a block make of an order."""
    kind = kind_of(rows, block)
    if kind in ("ring", "seven"):
        return len(orders_made(order, turns_within(rows, block, order.index(0))))
    many = factorial(len(order) - 1)
    for piece in sorted(set(order)):
        many //= factorial(order.count(piece))
    return many // 2 if kind == "even" and no_two_alike(order) else many
