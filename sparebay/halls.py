"""Halls: a web whose ties change, a standing, and wishes that can always be met."""

from sparebay.deeds import need_room
from sparebay.errors import NoTie, NotKept, NoUndo, NoWay, Parted
from sparebay.graphs import rows_of, with_tie
from sparebay.slides import slid
from sparebay.standings import need_standing, need_tied
from sparebay.webs import is_web, need_bay, need_web
from sparebay.wishes import met_from, need_wish


class Hall:
    """A web, a standing and wishes that deeds change."""

    def __init__(self, web, standing):
        need_web(web)
        need_standing(web, standing)
        self._web = web
        self._standing = standing
        self._wishes = ()
        # For each deed the web, the standing and the wishes ahead of it.
        self._past = []

    def __len__(self):
        return len(self._past)

    def move(self, bay):
        """Move the piece at a bay into the empty one."""
        need_bay(self._web, bay)
        need_tied(rows_of(self._web), self._standing, [bay])
        after = slid(self._standing, self._standing.index(0), [bay])
        self._change(self._web, tuple(after), self._wishes)

    def tie(self, a, b):
        """Add the tie of two bays that are not tied."""
        need_bay(self._web, a)
        need_bay(self._web, b)
        if a >= b or (a, b) in self._web[1]:
            raise NoTie("these are tied, or the first is not below the second")
        self._change(with_tie(self._web, a, b), self._standing, self._wishes)

    def untie(self, a, b):
        """Take away a tie without which the rest is a web and each wish can be met."""
        need_bay(self._web, a)
        need_bay(self._web, b)
        n, ties = self._web
        if (a, b) not in ties:
            raise NoTie("these are not tied, or the first is not below the second")
        web = (n, tuple([tie for tie in ties if tie != (a, b)]))
        if not is_web(web):
            raise Parted("without this tie the bays hang together no more")
        if None in all_met(web, self._standing, self._wishes):
            raise NoWay("without this tie a wish could not be met")
        self._change(web, self._standing, self._wishes)

    def keep(self, wish):
        """Keep a wish that can be met."""
        need_wish(self._web, wish)
        if None in all_met(self._web, self._standing, (wish,)):
            raise NoWay("this wish cannot be met")
        self._change(self._web, self._standing, self._wishes + (wish,))

    def drop(self, wish):
        """Drop the last wish kept that equals a wish."""
        need_wish(self._web, wish)
        places = [k for k, kept in enumerate(self._wishes) if kept == wish]
        if not places:
            raise NotKept("this wish is not kept")
        last = places[-1]
        self._change(self._web, self._standing, self._wishes[:last] + self._wishes[last + 1:])

    def undo(self):
        """Take back the last deed that stands."""
        if not self._past:
            raise NoUndo("no deed stands")
        self._web, self._standing, self._wishes = self._past.pop()

    def web_now(self):
        """Return the web by now."""
        return self._web

    def standing(self):
        """Return the standing by now."""
        return self._standing

    def wishes(self):
        """Return the list of the wishes that are kept."""
        return list(self._wishes)

    def met(self):
        """Return for each wish that is kept a standing that meets it."""
        return all_met(self._web, self._standing, self._wishes)

    def _change(self, web, standing, wishes):
        need_room(self._past)
        self._past.append((self._web, self._standing, self._wishes))
        self._web = web
        self._standing = standing
        self._wishes = wishes


def all_met(web, standing, wishes):
    """Return for each wish a standing that meets it and to which this one leads, or None."""
    rows = rows_of(web)
    return [met_from(rows, standing, wish) for wish in wishes]
