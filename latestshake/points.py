"""Points (X, Y, T, R): a place and a moment, the numbers (P, Q, R) for X, Y, T with one root for all three."""

from latestshake.counts import need_many, need_places
from latestshake.decimals import ten_to, with_point
from latestshake.errors import InvalidPoint, InvalidWord
from latestshake.hearing import floor_heard, sign_beyond, sign_heard
from latestshake.kinds import is_tuple_of
from latestshake.numbers import is_fraction, need_fraction, order_of
from latestshake.sides import need_side

WORDS = ("x", "y", "t")
# Points are put in order by t, then x, then y.
ORDER = (2, 0, 1)


def is_pair(value):
    """Whether a value, whatever it is, is a pair of fractions."""
    if not is_tuple_of(value, 2, 2):
        return False
    return is_fraction(value[0]) and is_fraction(value[1])


def is_point(value):
    """Whether a value, whatever it is, is a triple of pairs of fractions and, behind them, a fraction from 0 on."""
    if not is_tuple_of(value, 4, 4):
        return False
    if not all([is_pair(pair) for pair in value[:3]]):
        return False
    return is_fraction(value[3]) and value[3][0] >= 0


def need_point(point):
    """Refuse what is no point."""
    if not is_point(point):
        raise InvalidPoint(point)


def number_at(point, index):
    """The number that stands at an index of a point."""
    part, factor = point[index]
    return part, factor, point[3]


def moment_of(point):
    """The number of the moment of a point."""
    return number_at(point, 2)


def number_of(point, which):
    """The number of a point that is called "x", "y" or "t"."""
    need_point(point)
    if not isinstance(which, str) or which not in WORDS:
        raise InvalidWord(which)
    return number_at(point, WORDS.index(which))


def ordered(point, other):
    """- 1, 0, 1 as the first point is ahead of the other one, is it, or behind it: by t, then x, then y."""
    need_point(point)
    need_point(other)
    for index in ORDER:
        order = order_of(number_at(point, index), number_at(other, index))
        if order != 0:
            return order
    return 0


def heard_sign(point, east, north, moment):
    """- 1, 0, 1 as a shake of the point is heard at (east, north) ahead of the moment, at it, behind it."""
    need_point(point)
    need_fraction(east)
    need_fraction(north)
    need_fraction(moment)
    return sign_heard(point, (east, north), moment)


def beyond(point, side):
    """- 1, 0, 1 as the place of the point is within the side, on its line, beyond it."""
    need_point(point)
    need_side(side)
    return sign_beyond(point, side)


def heard_floor(point, east, north, many):
    """The greatest whole number k so that a shake of the point is not heard at (east, north) ahead of k / many."""
    need_point(point)
    need_fraction(east)
    need_fraction(north)
    need_many(many)
    return floor_heard(point, (east, north), many)


def heard_figures(point, east, north, places):
    """The greatest decimal with so many places that is not above the moment at which a shake is heard."""
    need_point(point)
    need_fraction(east)
    need_fraction(north)
    need_places(places)
    return with_point(floor_heard(point, (east, north), ten_to(places)), places)
