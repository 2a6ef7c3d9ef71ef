"""Sides (U, V, C): the places (x, y) with U x + V y up to C are within it."""

from latestshake.errors import InvalidSide
from latestshake.numbers import is_fraction


def is_side(value):
    """Whether a value, whatever it is, is a triple of fractions, the first two not both 0."""
    if not isinstance(value, tuple) or len(value) != 3:
        return False
    if not all([is_fraction(part) for part in value]):
        return False
    return value[0][0] != 0 or value[1][0] != 0


def need_side(side):
    """Refuse what is no side."""
    if not is_side(side):
        raise InvalidSide(side)
