"""When a shake of a point is heard at a place of fractions, by signs with one root. Nothing is checked here."""

from math import isqrt

from latestshake.wholes import floor_with_root, on_one_bottom, sign_with_root, with_one_root


def sign_heard(point, place, moment):
    """- 1, 0, 1 as a shake of the point is heard at the place ahead of the moment, at it, behind it."""
    wholes, square, bottom = with_one_root(point[:3], point[3])
    (east, north, late), scale = on_one_bottom([*place, moment])
    (x, x_factor), (y, y_factor), (t, t_factor) = [(p * scale, q * scale) for p, q in wholes]
    x, y, t = x - east * bottom, y - north * bottom, t - late * bottom
    if sign_with_root(t, t_factor, square) > 0:
        return 1
    part = x * x + y * y - t * t + (x_factor * x_factor + y_factor * y_factor - t_factor * t_factor) * square
    return sign_with_root(part, 2 * (x * x_factor + y * y_factor - t * t_factor), square)


def floor_heard(point, place, many):
    """The greatest whole number k so that a shake of the point is not heard at the place ahead of k / many."""
    wholes, square, bottom = with_one_root(point[:3], point[3])
    (east, north), scale = on_one_bottom(place)
    (x, x_factor), (y, y_factor), (t, t_factor) = wholes
    x, x_factor, y, y_factor = x * scale, x_factor * scale, y * scale, y_factor * scale
    x, y = x - east * bottom, y - north * bottom
    part = x * x + y * y + (x_factor * x_factor + y_factor * y_factor) * square
    factor = 2 * (x * x_factor + y * y_factor)
    near = many * many
    distance = isqrt(floor_with_root(part * near, factor * near, square, bottom * bottom * scale * scale))
    low = floor_with_root(t * many, t_factor * many, square, bottom) + distance
    # The moment and the distance each lie less than 1 above their floors, so it is low or the next one:
    # of all the halving that leads there just one question is left.
    if sign_heard(point, place, (low + 1, many)) >= 0:
        return low + 1
    return low


def sign_beyond(point, side):
    """- 1, 0, 1 as the place of the point is within the side, on its line, beyond it."""
    wholes, square, bottom = with_one_root(point[:2], point[3])
    (east, north, limit), _ = on_one_bottom(side)
    (x, x_factor), (y, y_factor) = wholes
    part = east * x + north * y - limit * bottom
    return sign_with_root(part, east * x_factor + north * y_factor, square)
