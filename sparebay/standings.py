"""Standings: a piece at each bay of a web but the empty one."""

from sparebay.errors import BadMove, NoMatch, NoMoves, NoStanding
from sparebay.graphs import is_whole, rows_of
from sparebay.slides import led_to, slid, tied_along
from sparebay.webs import is_bay, need_bay, need_web

GREATEST_PIECE = 999


def is_standing(web, thing):
    """Tell whether a thing is a standing of the web."""
    need_web(web)
    return fits_loosely(web, thing) and no_two_alike(thing)


def is_loose(web, thing):
    """Tell whether a thing is a loose standing of the web."""
    need_web(web)
    return fits_loosely(web, thing)


def done(web, loose, moves):
    """Return the loose standing after moves."""
    need_web(web)
    need_loose(web, loose)
    need_moves(web, moves)
    need_tied(rows_of(web), loose, moves)
    return tuple(slid(loose, loose.index(0), moves))


def led(web, loose, bay):
    """Return the loose standing after its empty bay is led to a bay."""
    need_web(web)
    need_loose(web, loose)
    need_bay(web, bay)
    return led_to(rows_of(web), loose, bay)


def fits_loosely(web, thing):
    """Tell whether a thing is a loose standing of what surely is a web."""
    return fits_openly(web, thing) and None not in thing


def fits_openly(web, thing):
    """Tell whether a thing is a loose standing, but that it may have None at bays."""
    if not isinstance(thing, tuple) or len(thing) != web[0]:
        return False
    if not all([piece is None or is_piece_or_0(piece) for piece in thing]):
        return False
    return thing.count(0) == 1


def is_piece_or_0(thing):
    """Tell whether a thing is a piece, or 0 for the empty bay."""
    return is_whole(thing) and 0 <= thing <= GREATEST_PIECE


def no_two_alike(loose):
    """Tell whether no piece of a loose standing stands twice."""
    return len(set(loose)) == len(loose)


def need_loose(web, loose):
    """Raise NoStanding for what is no loose standing of the web."""
    if not fits_loosely(web, loose):
        raise NoStanding("this is not a loose standing of the web")


def need_standing(web, standing):
    """Raise NoStanding for what is no standing of the web."""
    if not fits_loosely(web, standing) or not no_two_alike(standing):
        raise NoStanding("this is not a standing of the web")


def need_match(web, one, other):
    """Raise an error unless these are a web and two standings of the same pieces."""
    need_web(web)
    need_standing(web, one)
    need_standing(web, other)
    if sorted(one) != sorted(other):
        raise NoMatch("the standings have not the same pieces")


def need_tied(rows, loose, moves):
    """Raise BadMove if a bay of some moves is not tied to the empty one by then."""
    if not tied_along(rows, loose.index(0), moves):
        raise BadMove("a bay that is moved from is not tied to the empty one")


def are_bays(web, thing):
    """Tell whether a thing is a list of bays of the web."""
    return isinstance(thing, list) and all([is_bay(web, bay) for bay in thing])


def need_moves(web, moves):
    """Raise NoMoves for what is no list of bays of the web."""
    if not are_bays(web, moves):
        raise NoMoves("this is not a list of bays")
