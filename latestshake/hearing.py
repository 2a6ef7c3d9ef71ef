"""When a shake of a point is heard at a place of fractions, by signs with one root. Nothing is checked here.

A *spot* is a point in whole numbers: the pairs (part, factor) of its x, y and t, the square under their root, and the
bottom of all. Places, moments and sides are told by their tops, brought to one bottom.
"""

from math import isqrt

from latestshake.wholes import floor_with_root, on_one_bottom, sign_with_root, with_one_root


def spot_of(point):
    """The spot of a point."""
    return with_one_root(point[:3], point[3])


def sign_heard_at(spot, tops, scale):
    """- 1, 0, 1 as a shake of the spot is heard ahead of, at, behind the moment that tops tell behind their place."""
    wholes, square, bottom = spot
    east, north, late = tops
    (x, x_factor), (y, y_factor), (t, t_factor) = [(p * scale, q * scale) for p, q in wholes]
    x, y, t = x - east * bottom, y - north * bottom, t - late * bottom
    if sign_with_root(t, t_factor, square) > 0:
        return 1
    part = x * x + y * y - t * t + (x_factor * x_factor + y_factor * y_factor - t_factor * t_factor) * square
    return sign_with_root(part, 2 * (x * x_factor + y * y_factor - t * t_factor), square)


def sign_heard(point, place, moment):
    """- 1, 0, 1 as a shake of the point is heard at the place ahead of the moment, at it, behind it."""
    tops, scale = on_one_bottom([*place, moment])
    return sign_heard_at(spot_of(point), tops, scale)


def floor_heard(point, place, many):
    """The greatest whole number k so that a shake of the point is not heard at the place ahead of k / many."""
    wholes, square, bottom = spot_of(point)
    (east, north), scale = on_one_bottom(place)
    (x, x_factor), (y, y_factor), (t, t_factor) = wholes
    x, x_factor, y, y_factor = x * scale, x_factor * scale, y * scale, y_factor * scale
    x, y = x - east * bottom, y - north * bottom
    part = x * x + y * y + (x_factor * x_factor + y_factor * y_factor) * square
    factor = 2 * (x * x_factor + y * y_factor)
    near = many * many
    distance = isqrt(floor_with_root(part * near, factor * near, square, bottom * bottom * scale * scale))
    low = floor_with_root(t * many, t_factor * many, square, bottom) + distance
    # The moment and the distance each lie less than 1 above their floors, so it is low or the next one:
    # of all the halving that leads there just one question is left.
    if sign_heard(point, place, (low + 1, many)) >= 0:
        return low + 1
    return low


def sign_beyond_at(spot, tops):
    """- 1, 0, 1 as the place of the spot is within the side of these tops, on its line, beyond it."""
    ((x, x_factor), (y, y_factor), _), square, bottom = spot
    east, north, limit = tops
    part = east * x + north * y - limit * bottom
    return sign_with_root(part, east * x_factor + north * y_factor, square)


def sign_beyond(point, side):
    """- 1, 0, 1 as the place of the point is within the side, on its line, beyond it."""
    tops, _ = on_one_bottom(side)
    return sign_beyond_at(spot_of(point), tops)
