"""Yards: a web and a standing, deeds that are done and undone, and trials of them."""

from sparebay.deeds import need_room
from sparebay.errors import NoDeed, NoPiece, NoThings, NoUndo, NoWay, NoYard
from sparebay.graphs import is_whole, path_between, rows_of
from sparebay.judges import judge
from sparebay.searches import fewest_moves
from sparebay.slides import slid
from sparebay.standings import need_standing, need_tied
from sparebay.webs import need_bay, need_web

DEEPEST = 5
# Stands for each piece but the one that is shifted; no piece itself.
OTHER_PIECE = 1000


class Stretch:
    """The deeds that stood when a stretch began, and the stretch around it or None."""

    def __init__(self, deeds, around):
        self.deeds = deeds
        self.around = around


class Yard:
    """A web and a standing that deeds change."""

    def __init__(self, web, standing):
        need_web(web)
        need_standing(web, standing)
        self._web = web
        self._rows = rows_of(web)
        self._first = standing
        # For each deed its moves and the standing after it. The list itself is
        # never changed, so that a stretch can keep the one that it began with.
        self._deeds = []
        self._stretch = None

    def __len__(self):
        return len(self._deeds)

    def __enter__(self):
        self._stretch = Stretch(self._deeds, self._stretch)
        return self

    def __exit__(self, kind, value, trace):
        self._deeds = self._stretch.deeds
        self._stretch = self._stretch.around

    def move(self, bay):
        """Move the piece at a bay into the empty one."""
        need_bay(self._web, bay)
        need_tied(self._rows, self.standing(), [bay])
        self._keep([bay])

    def lead(self, bay):
        """Lead the empty bay to a bay."""
        need_bay(self._web, bay)
        self._keep(path_between(self._rows, self.standing().index(0), bay))

    def shift(self, piece, bay):
        """Make moves by which a piece comes to a bay."""
        if not is_whole(piece) or piece == 0 or piece not in self.standing():
            raise NoPiece("this is not a piece of the standing")
        need_bay(self._web, bay)
        moves = moves_to_shift(self._rows, self.standing(), piece, bay)
        if moves is None:
            raise NoWay("no moves bring the piece to this bay")
        self._keep(moves)

    def undo(self):
        """Take back the last deed that stands."""
        if not self._deeds:
            raise NoUndo("no deed stands")
        self._deeds = self._deeds[:-1]

    def standing(self):
        """Return the standing by now."""
        return self._deeds[-1][1] if self._deeds else self._first

    def moves(self):
        """Return the list of the moves of all deeds that stand."""
        return [bay for moves, _ in self._deeds for bay in moves]

    def asked(self, other):
        """Return what judge tells of the standing by now and another one."""
        return judge(self._web, self.standing(), other)

    def _keep(self, moves):
        need_room(self._deeds)
        before = self.standing()
        after = tuple(slid(before, before.index(0), moves))
        self._deeds = self._deeds + [(moves, after)]


def trial(yard, things):
    """Return the results of steps and of lists of steps, and leave the yard as it was."""
    if not isinstance(yard, Yard):
        raise NoYard("this is not a yard")
    if not fits_nested(things, DEEPEST):
        raise NoThings("this is not a list, or lists in it are nested too deep")
    return results_of(yard, things)


def moves_to_shift(rows, standing, piece, bay):
    """Return moves by which a piece comes to a bay, or None if there are none."""
    # Where the other pieces are does not matter: so there are few enough
    # standings to look through, and the moves are fewer than these.
    marked = tuple([held if held in (0, piece) else OTHER_PIECE for held in standing])
    wish = tuple([piece if at == bay else None for at in range(len(rows))])
    return fewest_moves(rows, marked, wish)


def fits_nested(thing, depth):
    """Tell whether a thing is a list, and lists within lists are at most so deep."""
    if not isinstance(thing, list) or depth == 0:
        return False
    return all([fits_nested(inner, depth - 1) for inner in thing if isinstance(inner, list)])


def results_of(yard, things):
    """Return the results of steps and lists, done in a stretch."""
    results = []
    with yard:
        for thing in things:
            results.append(result_of(yard, thing))
    return results


def result_of(yard, thing):
    """Return the result of a step or of a list of them."""
    if isinstance(thing, list):
        return results_of(yard, thing)
    if thing == "undo":
        yard.undo()
        return yard.standing()
    if not isinstance(thing, tuple) or len(thing) != 2:
        raise NoDeed("this is not a step")
    word, told = thing
    if word == "ask":
        return yard.asked(told)
    if word == "move":
        yard.move(told)
    elif word == "lead":
        yard.lead(told)
    else:
        raise NoDeed("this is not a step")
    return yard.standing()
