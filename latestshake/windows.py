"""Windows (LOW, HIGH, N): N times N squares between two places, row 0 at the top, column 0 at the left."""

from latestshake.counts import MOST_SQUARES, is_count
from latestshake.errors import InvalidWindow
from latestshake.kinds import is_tuple_of
from latestshake.numbers import floor_of
from latestshake.points import is_pair
from latestshake.ratios import added, is_above, multiplied, negative, reduced


def is_window(value):
    """Whether a value, whatever it is, is a window."""
    if not is_tuple_of(value, 3, 3):
        return False
    low, high, many = value
    if not is_pair(low) or not is_pair(high) or not is_count(many, 1, MOST_SQUARES):
        return False
    return is_above(high[0], low[0]) and is_above(high[1], low[1])


def need_window(window):
    """Refuse what is no window."""
    if not is_window(window):
        raise InvalidWindow(window)


def cut_at(window, axis, top, bottom):
    """How far one comes on an axis, x or y, on top / bottom of the way from LOW to HIGH."""
    low, high, _ = window
    return added(low[axis], multiplied(added(high[axis], negative(low[axis])), reduced(top, bottom)))


def cuts_of(window, axis):
    """The numbers of an axis between which the squares lie, ascending."""
    many = window[2]
    return [cut_at(window, axis, index, many) for index in range(many + 1)]


def middle_of(window, row, column):
    """The middle of a square."""
    many = window[2]
    return cut_at(window, 0, 2 * column + 1, 2 * many), cut_at(window, 1, 2 * (many - row) - 1, 2 * many)


def part_left(window, axis, number):
    """The part of the way from LOW on that a number of an axis tells: a number from 0 to 1 within the window."""
    low, high, _ = window
    wide = added(high[axis], negative(low[axis]))
    by = (wide[1], wide[0])
    part, factor, root = number
    return multiplied(added(part, negative(low[axis])), by), multiplied(factor, by), root


def spans_of(window, axis, number):
    """The indexes, from LOW on, of the spans between cuts in which a number of an axis lies, both ends let in."""
    many = window[2]
    part = part_left(window, axis, number)
    # A number that is a cut itself ends a span, too: then less the number has the floor that it has less a span.
    upper, lower = floor_of(part, many), -floor_of((negative(part[0]), negative(part[1]), part[2]), many) - 1
    return list(range(max(lower, 0), min(upper, many - 1) + 1))


def squares_at(window, x, y):
    """The squares in which a place of two numbers lies, their edges let in: pairs of a row and a column."""
    columns, rows = spans_of(window, 0, x), spans_of(window, 1, y)
    return [(window[2] - 1 - row, column) for row in rows for column in columns]
