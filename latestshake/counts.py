"""Checks of whole numbers: by which floors and figures are asked for, how many readings are wrong, how many squares."""

from latestshake.errors import InvalidCount
from latestshake.kinds import is_whole

MOST_PLACES = 40
MOST_WRONG = 12
MOST_SQUARES = 24


def is_count(value, least, most):
    """Whether a value, whatever it is, is a whole number within two limits, both let in."""
    return is_whole(value) and least <= value <= most


def need_many(many):
    """Refuse what is no whole number from 1 on."""
    if not is_whole(many) or many < 1:
        raise InvalidCount(many)


def need_places(places):
    """Refuse what is no whole number of places behind the point."""
    if not is_count(places, 0, MOST_PLACES):
        raise InvalidCount(places)


def need_wrong(many):
    """Refuse what is no whole number of readings that may be wrong, whatever a scene has."""
    if not is_count(many, 0, MOST_WRONG):
        raise InvalidCount(many)


def need_squares(many):
    """Refuse what is no whole number of squares along a window's edge."""
    if not is_count(many, 1, MOST_SQUARES):
        raise InvalidCount(many)
