"""Squares of a window: whether a scene lets the middle of each, and otherwise some place of it.

Some place of a square is let exactly if a candidate of the scene with the square's four sides taken in fits. Such a
candidate is told by rows of the scene alone, by one side of the square and one or two rows of the scene, or by two
sides of the square and a row: then its place is a corner. So the lines between squares serve all squares.
"""

from latestshake.candidates import chosen_of, fitting_points, points_of, telling_rows
from latestshake.points import number_at
from latestshake.ratios import NIL, ONE
from latestshake.rows import is_let_by, moments_by, rows_in
from latestshake.wholes import on_one_bottom
from latestshake.windows import cuts_of, middle_of, squares_at

MIDDLE_LET = "#"
SOME_LET = "+"
NONE_LET = "."


def lines_of(window):
    """The lines between the squares of a window, and those of its rim, as rows of sides."""
    sides = [(ONE, NIL, cut) for cut in cuts_of(window, 0)] + [(NIL, ONE, cut) for cut in cuts_of(window, 1)]
    return [("side", 0, *on_one_bottom(side)) for side in sides]


def points_along(telling, line):
    """The points of the candidates that one or two rows of a scene tell with a line."""
    few = [chosen for chosen in chosen_of(telling) if len(chosen) < 3]
    rows, last = [*telling, line], len(telling)
    return [point for chosen in few for point in points_of(rows, (*chosen, last))]


def let_middles(rows, window):
    """The squares whose middle the rows let, as keys."""
    many = window[2]
    return {(row, column): MIDDLE_LET for row in range(many) for column in range(many)
            if moments_by(rows, middle_of(window, row, column)) is not None}


def unmarked_at(marks, window, x, y):
    """The squares without a mark in which a place of two numbers lies."""
    return [square for square in squares_at(window, x, y) if square not in marks]


def mark_all(marks, squares):
    """Mark squares as such of which some place is let."""
    for square in squares:
        marks[square] = SOME_LET


def mark_points(marks, rows, window, points):
    """Mark the squares in which the place of one of the points lies, if the rows let the point."""
    for point in points:
        squares = unmarked_at(marks, window, number_at(point, 0), number_at(point, 1))
        if len(squares) > 0 and is_let_by(rows, point):
            mark_all(marks, squares)


def mark_corners(marks, rows, window):
    """Mark the squares of which the rows let a corner."""
    heights = cuts_of(window, 1)
    for x in cuts_of(window, 0):
        for y in heights:
            squares = unmarked_at(marks, window, (x, NIL, NIL), (y, NIL, NIL))
            if len(squares) > 0 and moments_by(rows, (x, y)) is not None:
                mark_all(marks, squares)


def signs_by(scene, window):
    """As signs of a picture, of arguments that are known to be right."""
    rows, telling, many = rows_in(scene), telling_rows(scene), window[2]
    marks = let_middles(rows, window)
    if len(marks) < many * many:
        mark_points(marks, rows, window, fitting_points(scene))
        mark_corners(marks, rows, window)
        for line in lines_of(window):
            mark_points(marks, rows, window, points_along(telling, line))
    return tuple(["".join([marks.get((row, column), NONE_LET) for column in range(many)]) for row in range(many)])
