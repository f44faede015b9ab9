"""Forms: the one standing that stands for all that lead to one another."""

from sparebay.graphs import rows_of
from sparebay.orders import first_orders, put_together
from sparebay.slides import led_to
from sparebay.standings import need_standing
from sparebay.webs import need_web


def normal_form(web, standing):
    """Return the first standing with bay 0 empty to which a standing leads."""
    need_web(web)
    need_standing(web, standing)
    rows = rows_of(web)
    # No block's order bears on another one's, so each may be the first one.
    return put_together(web[0], first_orders(rows, led_to(rows, standing, 0)))
