"""Polygons: corners that go round once to the left, and where on them a pair of rows may be broken.

Corners are a tuple of places; nothing is checked here but what turns_left_once asks.
"""

from latestshake.ratios import reduced
from latestshake.wholes import on_one_bottom, sign_of_whole

LEAST_CORNERS = 3
MOST_CORNERS = 8


def edges_of(corners):
    """The edges of a polygon: pairs of each corner and the next one, behind the last one the first one."""
    return list(zip(corners, (*corners[1:], corners[0])))


def turn_to(start, end, place):
    """1 as a place lies to the left of the way from start to end, 0 on its line, - 1 to the right."""
    (ax, ay, bx, by, x, y), _ = on_one_bottom([*start, *end, *place])
    return sign_of_whole((bx - ax) * (y - ay) - (by - ay) * (x - ax))


def turns_left_once(corners):
    """Whether going along the corners one turns to the left at each, and goes round just once."""
    for start, end in edges_of(corners):
        # Going round more than once, one leaves a corner to the right, or on an edge; a corner told twice is left over.
        others = [place for place in corners if place != start and place != end]
        if len(others) != len(corners) - 2 or not all([turn_to(start, end, place) > 0 for place in others]):
            return False
    return True


def is_in(corners, place):
    """Whether a place is in the polygon, its edge let in."""
    return all([turn_to(start, end, place) >= 0 for start, end in edges_of(corners)])


def station_of(row):
    """The place of the station of a high or low row."""
    (east, north, _), bottom = row[2:]
    return reduced(east, bottom), reduced(north, bottom)


def turning_place(low, high, edge):
    """The place between the ends of an edge where A A - 4 k k |x - s| |x - s| turns; None if it turns nowhere there.

    s is the station of the low row, s' that of the high one, k the moment of the high one less that of the low one, and
    A is |x - s'| |x - s'| - |x - s| |x - s| - k k.
    """
    (start, end), moments = edge, [reduced(row[2][2], row[3]) for row in (low, high)]
    tops, bottom = on_one_bottom([*start, *end, *station_of(low), *station_of(high), *moments])
    px, py, qx, qy, sx, sy, hx, hy, low_moment, high_moment = tops
    square = (high_moment - low_moment) * (high_moment - low_moment)
    near, far = (px - sx) * (px - sx) + (py - sy) * (py - sy), (qx - sx) * (qx - sx) + (qy - sy) * (qy - sy)
    first = (px - hx) * (px - hx) + (py - hy) * (py - hy) - near - square
    rise = (qx - hx) * (qx - hx) + (qy - hy) * (qy - hy) - far - square - first
    wide = (qx - px) * (qx - px) + (qy - py) * (qy - py)
    # At start + l (end - start) A is first + l rise, and |x - s| |x - s| is near + l (far - near - wide) + l l wide.
    top = 2 * square * (far - near - wide) - rise * first
    under = rise * rise - 4 * square * wide
    if under < 0:
        top, under = -top, -under
    if not 0 < top < under:
        return None
    return reduced(px * under + top * (qx - px), bottom * under), reduced(py * under + top * (qy - py), bottom * under)


def places_to_ask(low, high, corners):
    """Places of the polygon, one of which a low row and a high row shut, if they shut any one of it."""
    places, station = list(corners), station_of(low)
    if is_in(corners, station):
        places.append(station)
    turning = [turning_place(low, high, edge) for edge in edges_of(corners)]
    return places + [place for place in turning if place is not None]
