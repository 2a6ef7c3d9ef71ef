"""Sides (U, V, C): the places (x, y) with U x + V y up to C are within it."""

from latestshake.errors import InvalidSide, InvalidSides
from latestshake.kinds import is_tuple_of
from latestshake.numbers import is_fraction
from latestshake.ratios import added, multiplied, negative

MOST_SIDES = 8


def wrong_in_side(value):
    """The path of what is wrong first in a value, whatever it is; None for a side."""
    if not is_tuple_of(value, 3, 3):
        return ()
    for index, part in enumerate(value):
        if not is_fraction(part):
            return (index,)
    if value[0][0] == 0 and value[1][0] == 0:
        return ()
    return None


def is_side(value):
    """Whether a value, whatever it is, is a triple of fractions, the first two not both 0."""
    return wrong_in_side(value) is None


def need_side(side):
    """Refuse what is no side."""
    if not is_side(side):
        raise InvalidSide(side)


def need_sides(sides):
    """Refuse what is no tuple of sides, as many as a scene may have."""
    if not is_tuple_of(sides, 0, MOST_SIDES):
        raise InvalidSides(None)
    for index, side in enumerate(sides):
        if not is_side(side):
            raise InvalidSides(index)


def opposite_side(side):
    """The side of all places on the line of a side or beyond it."""
    u, v, limit = side
    return negative(u), negative(v), negative(limit)


def leads_on(sides, way):
    """Whether no side ends a way, however far it is followed."""
    east, north = way
    return all([added(multiplied(u, east), multiplied(v, north))[0] <= 0 for u, v, _ in sides])


def do_bound(sides):
    """Whether all places within the sides lie in some box, for sides that let a place."""
    if len(sides) == 0:
        return False
    # Of the ways that lead on within some sides an outermost one is along the line of one of them.
    for u, v, _ in sides:
        if leads_on(sides, (negative(v), u)) or leads_on(sides, (v, negative(u))):
            return False
    return True
