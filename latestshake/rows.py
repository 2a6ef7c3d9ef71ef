"""The rows of a scene: what each told end of a reading, and each side, asks of a place and a moment.

A row is (KIND, INDEX, TOPS, BOTTOM): "high", "low" or "side", the index of its reading or side, and in whole numbers,
brought to one bottom, the place of its station and its moment, or the numbers of its side. Nothing is checked here.
"""

from latestshake.hearing import sign_beyond_at, sign_heard_at, spot_of
from latestshake.numbers import first_furthest, order_of
from latestshake.ratios import NIL, added, negative, reduced, root_of
from latestshake.wholes import on_one_bottom

LESS_ONE = (-1, 1)


def rows_in(scene):
    """The rows of a scene, in order: of each reading the high one, then the low one, then those of the sides."""
    stations, readings, sides = scene
    places = {station: (x, y) for station, x, y in stations}
    rows = []
    for index, (name, low, high) in enumerate(readings):
        for kind, moment in (("high", high), ("low", low)):
            if moment is not None:
                rows.append((kind, index, *on_one_bottom([*places[name], moment])))
    for index, side in enumerate(sides):
        rows.append(("side", index, *on_one_bottom(side)))
    return rows


def rows_of_kind(rows, kind):
    """The rows of one kind, in order."""
    return [row for row in rows if row[0] == kind]


def sign_at(row, spot):
    """- 1 where the row holds at a spot without being tight, 0 where it is tight, 1 where it is broken."""
    kind, _, tops, bottom = row
    if kind == "side":
        return sign_beyond_at(spot, tops)
    sign = sign_heard_at(spot, tops, bottom)
    return -sign if kind == "low" else sign


def is_let_by(rows, point):
    """Whether none of the rows is broken at a point."""
    spot = spot_of(point)
    for row in rows:
        if sign_at(row, spot) > 0:
            return False
    return True


def broken_at(rows, point):
    """The indexes of the rows that are broken at a point, ascending."""
    spot = spot_of(point)
    return tuple([index for index, row in enumerate(rows) if sign_at(row, spot) > 0])


def is_within(rows, place):
    """Whether a place is within the sides among the rows."""
    (x, y), bottom = on_one_bottom(place)
    return all([u * x + v * y <= limit * bottom for _, _, (u, v, limit), _ in rows_of_kind(rows, "side")])


def end_at(row, place):
    """The last moment that a high row lets at a place, the first one that a low row lets: its own less the distance."""
    _, _, (east, north, late), bottom = row
    (x, y), under = on_one_bottom(place)
    x, y = x * bottom - east * under, y * bottom - north * under
    moment, square = reduced(late, bottom), reduced(x * x + y * y, bottom * bottom * under * under)
    distance = root_of(square)
    if distance is None:
        return moment, LESS_ONE, square
    return added(moment, negative(distance)), NIL, NIL


def moments_by(rows, place):
    """The first and the last moment that the rows let at a place, None for no end; None if they let none there."""
    if not is_within(rows, place):
        return None
    first = first_furthest([end_at(row, place) for row in rows_of_kind(rows, "low")], 1)
    last = first_furthest([end_at(row, place) for row in rows_of_kind(rows, "high")], -1)
    if first is not None and last is not None and order_of(first, last) > 0:
        return None
    return first, last


def is_shut_by(low, high, place):
    """Whether a low row and a high row let no moment at a place together."""
    return order_of(end_at(low, place), end_at(high, place)) > 0
