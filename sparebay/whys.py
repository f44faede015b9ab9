"""Whys: papers that show that a standing does not lead to another one."""

from sparebay.blocks import bays_passed, forks_of, round_from, rows_within
from sparebay.graphs import blocks_with_gates, rows_of, two_sides
from sparebay.judges import verdicts
from sparebay.papers import shows_class, shows_held, shows_ring, shows_sign
from sparebay.standings import need_match


def why(web, one, other):
    """Return a paper, or None if one leads to other."""
    need_match(web, one, other)
    word, told = verdicts(web, one, other)[0]
    if word == "goes":
        return None
    if word == "held":
        return ("held", told, bay_between(web, one, other, told))
    rows = rows_of(web)
    block, gate = blocks_with_gates(rows)[told]
    if word == "ring":
        return ("ring", tuple(round_from(rows, block, gate)))
    if word == "sign":
        return ("sign", side_of(rows, block, 0), side_of(rows, block, 1))
    return ("class", *bays_of_seven(rows, block))


def shows_why(web, one, other, thing):
    """Tell whether a thing is a paper."""
    need_match(web, one, other)
    if not isinstance(thing, tuple) or not thing:
        return False
    word = thing[0]
    told = thing[1:]
    if word == "held":
        return shows_held(web, one, other, told)
    if word == "ring":
        return shows_ring(web, one, other, told)
    if word == "sign":
        return shows_sign(web, one, other, told)
    return word == "class" and shows_class(web, one, other, told)


def bay_between(web, one, other, piece):
    """Return a bay by which a piece is parted from where it stands in other."""
    # Blocks meet at single bays only: one of these lies between any two blocks.
    return [bay for bay in range(web[0]) if shows_held(web, one, other, (piece, bay))][0]


def side_of(rows, block, side):
    """Return the bays of a block that are on its side 0 or 1."""
    marks = two_sides(rows_within(rows, block))
    return tuple([bay for bay, mark in zip(block, marks) if mark == side])


def bays_of_seven(rows, block):
    """Return the bays of a seven: a fork, a lone bay, a fork, and two ways of two bays."""
    inner = rows_within(rows, block)
    forks = forks_of(inner)
    ways = sorted([bays_passed(inner, forks[0], near) for near in inner[forks[0]]], key=len)
    places = [forks[0], *ways[0], forks[1], *ways[1], *ways[2]]
    return [block[place] for place in places]
