"""Points that one, two or three rows of a scene tell, at which all of them are tight. Nothing is checked here.

Rows are those of rows.py. The *tip* of a high or low row is its station's place at its own moment. A *way* is a triple
of whole numbers: east, north, later. A *meeting* of rows is told from the tip of the first one:
(PART, FACTOR, SQUARE, BOTTOM), two ways and two whole numbers, is PART and FACTOR times root(SQUARE), over BOTTOM.
"""

from math import gcd, isqrt, lcm

from latestshake.ratios import reduced
from latestshake.wholes import sign_with_root

STILL = (0, 0, 0)


def is_heard(row):
    """Whether a row is a high or a low one."""
    return row[0] != "side"


def way_between(first, other):
    """The way from the tip of a row to that of another one, times its bottom, and this bottom."""
    tops, bottom, other_tops, other_bottom = first[2], first[3], other[2], other[3]
    scale = lcm(bottom, other_bottom)
    return [to * (scale // other_bottom) - at * (scale // bottom) for at, to in zip(tops, other_tops)], scale


def linear_row(first, other):
    """A way and a whole number: where both rows are tight, the way from the first tip times this one is the number."""
    if is_heard(other):
        (east, north, late), bottom = way_between(first, other)
        left = (2 * bottom * east, 2 * bottom * north, -2 * bottom * late)
        right = east * east + north * north - late * late
    else:
        (east, north, _), bottom, (u, v, limit) = first[2], first[3], other[2]
        left, right = (u * bottom, v * bottom, 0), limit * bottom - u * east - v * north
    # Both sides are 0 for another row of the same station and moment.
    divisor = gcd(left[0], left[1], left[2], right) or 1
    return (left[0] // divisor, left[1] // divisor, left[2] // divisor), right // divisor


def crossed(first, other):
    """A way at right angles to both, 0 if one is a multiple of the other."""
    return (
        first[1] * other[2] - first[2] * other[1],
        first[2] * other[0] - first[0] * other[2],
        first[0] * other[1] - first[1] * other[0],
    )


def together(first, times, other, other_times):
    """The sum of two ways, each one times a whole number."""
    return tuple([times * step + other_times * other_step for step, other_step in zip(first, other)])


def in_cone(first, other):
    """The product of two ways in which those along the double cone of a tip have the square 0."""
    return first[2] * other[2] - first[0] * other[0] - first[1] * other[1]


def between_stations(first, other):
    """The meetings of two rows of unlike stations between these: one, if the stations are far enough apart."""
    way, bottom = way_between(first, other)
    east, north, late = way
    square = east * east + north * north
    if square == 0 or late * late > square:
        return []
    return [((east * square, north * square, late * square), (-east * late, -north * late, -square), square,
             2 * square * bottom)]


def nearest_on_side(first, side):
    """The meeting of a row and a side, at the place on the side's line that is nearest to the row's station."""
    (u, v, _), number = linear_row(first, side)
    square = u * u + v * v
    return [((u * number, v * number, 0), (0, 0, -abs(number)), square, square)]


def opposite(way):
    """A way back."""
    return tuple([-step for step in way])


def on_line(foot, way, bottom):
    """The meetings (foot + l way) / bottom, l any number, that lie in the double cone of the tip, in order."""
    bend, slope, rest = in_cone(way, way), in_cone(foot, way), in_cone(foot, foot)
    divisor = gcd(bend, slope, rest) or 1
    bend, slope, rest = bend // divisor, slope // divisor, rest // divisor
    # They are those with bend l l + 2 slope l + rest = 0.
    square = slope * slope - bend * rest
    if square < 0 or (bend == 0 and slope == 0):
        return []
    if bend == 0:
        part, bottom = together(foot, 2 * slope, way, -rest), 2 * slope * bottom
    else:
        part, bottom = together(foot, bend, way, -slope), bend * bottom
    if bottom < 0:
        part, bottom = opposite(part), -bottom
    if bend == 0 or square == 0:
        return [(part, STILL, 0, bottom)]
    # The two differ by the sign of the way alone. It is to lead on in the order of points: by t, then x, then y.
    east, north, late = way
    if (late, east, north) < STILL:
        way = opposite(way)
    return [(part, opposite(way), square, bottom), (part, way, square, bottom)]


def is_up_to(first, row, meeting):
    """Whether a meeting told from the first tip has a moment up to that of a row."""
    part, factor, square, bottom = meeting
    (_, _, late), scale = way_between(first, row)
    return sign_with_root(part[2] * scale - late * bottom, factor[2] * scale, square) <= 0


def of_three(first, second, third):
    """The meetings of three rows, in order."""
    left, right = linear_row(first, second)
    other_left, other_right = linear_row(first, third)
    way = crossed(left, other_left)
    divisor = gcd(way[0], way[1], way[2])
    if divisor == 0:
        return []
    way = (way[0] // divisor, way[1] // divisor, way[2] // divisor)
    # The nearest to the tip of the points in both linear rows is a sum of multiples of these.
    foot = together(crossed(other_left, way), right, crossed(way, left), other_right)
    bottom = divisor * (way[0] * way[0] + way[1] * way[1] + way[2] * way[2])
    heard = [row for row in (first, second, third) if is_heard(row)]
    return [meeting for meeting in on_line(foot, way, bottom) if all([is_up_to(first, row, meeting) for row in heard])]


def point_at(first, meeting):
    """The point of a meeting told from the first tip: without a root where this is a whole number."""
    part, factor, square, bottom = meeting
    tops, scale = first[2], first[3]
    side = isqrt(square)
    if side * side == square or factor == STILL:
        part, factor, square = together(part, 1, factor, side), STILL, 0
    pairs = [(reduced(step * scale + top * bottom, bottom * scale), reduced(times, bottom))
             for step, times, top in zip(part, factor, tops)]
    return (*pairs, (square, 1))


def points_told(rows):
    """The points that one, two or three rows tell, in order; the first row is a high or a low one."""
    first = rows[0]
    if len(rows) == 1:
        meetings = [(STILL, STILL, 0, 1)]
    elif len(rows) == 3:
        meetings = of_three(first, rows[1], rows[2])
    elif is_heard(rows[1]):
        meetings = between_stations(first, rows[1])
    else:
        meetings = nearest_on_side(first, rows[1])
    return [point_at(first, meeting) for meeting in meetings]
