"""Webs: bays and the ties between them."""

from sparebay.errors import NoBay, NoWeb
from sparebay.graphs import is_whole, path_between, rows_of, steps_from, two_sides

FEWEST_BAYS = 2
MOST_BAYS = 40


def is_web(thing):
    """Tell whether a thing is a web."""
    if not isinstance(thing, tuple) or len(thing) != 2:
        return False
    n, ties = thing
    if not is_whole(n) or not FEWEST_BAYS <= n <= MOST_BAYS:
        return False
    if not isinstance(ties, tuple) or not all([is_tie(n, tie) for tie in ties]):
        return False
    if not all([ties[k] < ties[k + 1] for k in range(len(ties) - 1)]):
        return False
    return min(steps_from(rows_of(thing), 0)) >= 0


def is_tie(n, thing):
    """Tell whether a thing can be a tie of a web that has n bays."""
    if not isinstance(thing, tuple) or len(thing) != 2:
        return False
    a, b = thing
    return is_whole(a) and is_whole(b) and 0 <= a < b < n


def need_web(web):
    """Raise NoWeb for what is no web."""
    if not is_web(web):
        raise NoWeb("this is not a web")


def is_bay(web, thing):
    """Tell whether a thing is a bay of the web."""
    return is_whole(thing) and 0 <= thing < web[0]


def need_bay(web, bay):
    """Raise NoBay for what is no bay of the web."""
    if not is_bay(web, bay):
        raise NoBay("this is not a bay of the web")


def neighbours(web, bay):
    """Return the ascending list of the bays that are tied to a bay."""
    need_web(web)
    need_bay(web, bay)
    return rows_of(web)[bay]


def first_path(web, a, b):
    """Return the first of the shortest ways from a to b, without a."""
    need_web(web)
    need_bay(web, a)
    need_bay(web, b)
    return path_between(rows_of(web), a, b)


def sides(web):
    """Return the side of each bay, 0 or 1, or None if the web is not two-sided."""
    need_web(web)
    return two_sides(rows_of(web))
