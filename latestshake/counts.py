"""Checks of the whole numbers by which floors and figures are asked for."""

from latestshake.errors import InvalidCount
from latestshake.kinds import is_whole

MOST_PLACES = 40


def need_many(many):
    """Refuse what is no whole number from 1 on."""
    if not is_whole(many) or many < 1:
        raise InvalidCount(many)


def need_places(places):
    """Refuse what is no whole number of places behind the point."""
    if not is_whole(places) or places < 0 or places > MOST_PLACES:
        raise InvalidCount(places)
