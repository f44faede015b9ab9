"""Wishes: standings that leave bays open, and what meets them."""

from sparebay.blocks import kind_of
from sparebay.errors import NoWish
from sparebay.graphs import path_back, rows_of
from sparebay.orders import is_odd, orders_held, orders_made, put_together, turns_within
from sparebay.searches import meets
from sparebay.slides import led_to, slid
from sparebay.standings import fits_openly, need_loose, no_two_alike
from sparebay.webs import need_web


def meeting(web, loose, wish):
    """Return a loose standing that meets a wish and to which loose leads, or None."""
    need_web(web)
    need_loose(web, loose)
    need_wish(web, wish)
    return met_from(rows_of(web), loose, wish)


def need_wish(web, wish):
    """Raise NoWish for what is no wish of the web."""
    if not fits_openly(web, wish):
        raise NoWish("this is not a wish of the web")


def met_from(rows, loose, wish):
    """Return a loose standing that meets a wish and to which loose leads, or None."""
    # Leading moves what is wished as it moves pieces: so both are compared at bay 0.
    wishes = orders_held(rows, led_to(rows, wish, 0))
    found = []
    for k, (block, order) in enumerate(orders_held(rows, led_to(rows, loose, 0))):
        order_met = order_meeting(rows, block, order, wishes[k][1])
        if order_met is None:
            return None
        found.append((block, order_met))
    return tuple(slid(put_together(len(rows), found), 0, path_back(rows, 0, wish.index(0))))


def order_meeting(rows, block, order, wish):
    """Return an order that meets a wish and that moves within the block make, or None."""
    kind = kind_of(rows, block)
    if kind in ("ring", "seven"):
        made = orders_made(order, turns_within(rows, block, order.index(0)))
        found = [after for after in made if meets(after, wish)]
        return found[0] if found else None
    filled = order_filled(order, wish)
    if filled is None or kind != "even" or not no_two_alike(order):
        return filled
    return filled if is_odd(filled) == is_odd(order) else with_swap(filled, wish)


def order_filled(order, wish):
    """Return an order of the same pieces, in any order, that meets a wish, or None."""
    left = sorted(order)
    for wished in wish:
        if wished is not None:
            if wished not in left:
                return None
            left.remove(wished)
    filled = []
    for wished in wish:
        filled.append(left.pop() if wished is None else wished)
    return filled


def with_swap(filled, wish):
    """Return an order with the pieces at two open bays swapped, or None if there are not two."""
    free = [place for place, wished in enumerate(wish) if wished is None]
    if len(free) < 2:
        return None
    swapped = list(filled)
    swapped[free[0]], swapped[free[1]] = filled[free[1]], filled[free[0]]
    return swapped
