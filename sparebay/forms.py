"""Forms: the one standing that stands for all that lead to one another."""

from sparebay.graphs import rows_of
from sparebay.orders import first_orders
from sparebay.slides import led_to
from sparebay.standings import need_standing
from sparebay.webs import need_web


def normal_form(web, standing):
    """Return the first standing with bay 0 empty to which a standing leads."""
    need_web(web)
    need_standing(web, standing)
    rows = rows_of(web)
    form = [0] * web[0]
    # No block's order bears on another one's, so each may be the first one.
    for block, order in first_orders(rows, led_to(rows, standing, 0)):
        for bay, piece in zip(block, order):
            if piece:
                form[bay] = piece
    return tuple(form)
