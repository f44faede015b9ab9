"""The errors of the package, each made from a text."""


class BayError(ValueError):
    """What all errors of the package have in common."""


class NoWeb(BayError):
    """What was passed is not a web."""


class NoBay(BayError):
    """What was passed is not a bay of the web."""


class NoBlock(BayError):
    """What was passed is not the number of a fitting block."""


class NoStanding(BayError):
    """What was passed is not a standing of the web, or not a loose one."""


class NoMatch(BayError):
    """Two standings have not the same pieces."""


class BadMove(BayError):
    """A bay that is moved from is not tied to the empty one."""


class NoMoves(BayError):
    """What was passed is not a list of bays."""


class NoTour(BayError):
    """What was passed is not a tour that begins at the bay."""


class NoCount(BayError):
    """What was passed is not a number of times."""


class NoWish(BayError):
    """What was passed is not a wish of the web."""


class NoYard(BayError):
    """What was passed is not a yard."""


class NoPiece(BayError):
    """What was passed is not a piece of the standing."""


class NoWay(BayError):
    """No moves bring about what was asked."""


class NoDeed(BayError):
    """A step of a trial is not a step."""


class NoUndo(BayError):
    """No deed stands that could be taken back."""


class NoThings(BayError):
    """What was passed is not a list of things, or nested too deep."""


class TooGreat(BayError):
    """What was asked goes beyond a bound."""


class NoTie(BayError):
    """Two bays are not such that the tie can be put or taken away."""


class Parted(BayError):
    """Without the tie the rest is not a web."""


class NotKept(BayError):
    """The wish is not among those that are kept."""
