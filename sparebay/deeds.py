"""Deeds: the bound on how many stand at a time."""

from sparebay.errors import TooGreat

MOST_DEEDS = 200


def need_room(deeds):
    """Raise TooGreat if no deed more may stand beside those of a list."""
    if len(deeds) >= MOST_DEEDS:
        raise TooGreat("no deed more may stand")
