"""Tours: moves that end at the bay at which they begin, done again and again."""

from math import lcm

from sparebay.errors import NoCount, NoTour
from sparebay.graphs import is_whole, rows_of
from sparebay.slides import slid, tied_along
from sparebay.standings import are_bays, need_loose
from sparebay.webs import need_bay, need_web

MOST_TIMES = 10 ** 30


def turned(web, bay, tour):
    """Return for each bay the bay to which a tour brings the piece there."""
    need_web(web)
    need_bay(web, bay)
    need_tour(web, bay, tour)
    return turn_of(web, bay, tour)


def order_of(web, bay, tour):
    """Return after how many times of a tour, one or more, each piece is back."""
    need_web(web)
    need_bay(web, bay)
    need_tour(web, bay, tour)
    times = 1
    for bays in cycles_of(turn_of(web, bay, tour)):
        times = lcm(times, len(bays))
    return times


def done_many(web, loose, tour, times):
    """Return the loose standing after a tour is done so many times."""
    need_web(web)
    need_loose(web, loose)
    empty = loose.index(0)
    need_tour(web, empty, tour)
    if not is_whole(times) or not 0 <= times <= MOST_TIMES:
        raise NoCount("this is not a number of times")
    after = list(loose)
    for bays in cycles_of(turn_of(web, empty, tour)):
        rest = times % len(bays)
        for bay, end in zip(bays, bays[rest:] + bays[:rest]):
            after[end] = loose[bay]
    return tuple(after)


def need_tour(web, bay, tour):
    """Raise NoTour for what is no tour that begins at a bay."""
    if not are_bays(web, tour) or not tied_along(rows_of(web), bay, tour):
        raise NoTour("this is not a list of bays, each tied to the one ahead")
    if tour and tour[-1] != bay:
        raise NoTour("this does not end at the bay at which it begins")


def turn_of(web, bay, tour):
    """Return for each bay the bay to which a tour from a bay brings the piece there."""
    came = slid(list(range(web[0])), bay, tour)
    return tuple([came.index(start) for start in range(web[0])])


def cycles_of(turn):
    """Return lists of bays, each bay in one: a piece goes on to the next bay of its list."""
    found = []
    passed = [False] * len(turn)
    for start in range(len(turn)):
        bays = []
        at = start
        while not passed[at]:
            passed[at] = True
            bays.append(at)
            at = turn[at]
        if bays:
            found.append(bays)
    return found
