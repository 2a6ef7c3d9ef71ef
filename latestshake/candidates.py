"""Candidates: the finitely many points, told by one, two or three rows, that settle what fits a scene."""

from itertools import combinations

from latestshake.meeting import is_heard, points_told
from latestshake.numbers import order_of
from latestshake.points import moment_of
from latestshake.ratios import NIL
from latestshake.rows import broken_at, is_let_by, rows_in, rows_of_kind
from latestshake.scenes import need_scene
from latestshake.sides import do_bound


def telling_rows(scene):
    """The rows that tell the candidates: those of the scene, with one reading more if it has none."""
    stations, readings, sides = scene
    if len(readings) == 0:
        readings = ((stations[0][0], NIL, None),)
    return rows_in((stations, readings, sides))


def chosen_of(rows):
    """The indexes of one, two, three rows, in order, of which at least one is a high or a low one."""
    heard = len([row for row in rows if is_heard(row)])
    ones = list(combinations(range(len(rows)), 1))
    twos = list(combinations(range(len(rows)), 2))
    threes = list(combinations(range(len(rows)), 3))
    # Sides stand behind all other rows, so the first one of some rows is no side if any one is none.
    return [chosen for chosen in ones + twos + threes if chosen[0] < heard]


def points_of(rows, chosen):
    """The points that the chosen ones of the rows tell."""
    return points_told([rows[index] for index in chosen])


def told_in(scene):
    """As candidates, of a scene that is known to be right."""
    rows = telling_rows(scene)
    # The row of the reading more, ahead of all others, has no index in the scene.
    more = 1 if len(scene[1]) == 0 else 0
    return [(tuple([index - more for index in chosen if index >= more]), point)
            for chosen in chosen_of(rows) for point in points_of(rows, chosen)]


def looked_at(scene):
    """Triples of each candidate's row indexes, its point, and the indexes of the rows that are broken there."""
    rows = rows_in(scene)
    return [(chosen, point, broken_at(rows, point)) for chosen, point in told_in(scene)]


def point_fitting(scene):
    """The first candidate's point that fits a scene; None if nothing does."""
    rows, telling = rows_in(scene), telling_rows(scene)
    # Not by told_in: points behind the first one that fits need not be made.
    for chosen in chosen_of(telling):
        for point in points_of(telling, chosen):
            if is_let_by(rows, point):
                return point
    return None


def fitting_points(scene):
    """The candidates' points that fit a scene, in order."""
    rows = rows_in(scene)
    return [point for _, point in told_in(scene) if is_let_by(rows, point)]


def first_in_time(points, way):
    """The first one of the latest points for the way 1, of the earliest ones for - 1; None of no points."""
    found = None
    for point in points:
        if found is None or order_of(moment_of(point), moment_of(found)) == way:
            found = point
    return found


def candidates(scene):
    """The candidates of a scene, in order: pairs of the indexes of the rows that tell one, and its point."""
    need_scene(scene)
    return tuple(told_in(scene))


def fitting(scene):
    """The indexes of the candidates that fit a scene."""
    need_scene(scene)
    rows = rows_in(scene)
    return tuple([index for index, (_, point) in enumerate(told_in(scene)) if is_let_by(rows, point)])


def fits(scene):
    """Whether something fits a scene."""
    need_scene(scene)
    return point_fitting(scene) is not None


def latest(scene):
    """A point that fits a scene with the latest moment; None if nothing fits, or moments have no end."""
    need_scene(scene)
    if len(rows_of_kind(rows_in(scene), "high")) == 0:
        return None
    return first_in_time(fitting_points(scene), 1)


def earliest(scene):
    """A point that fits a scene with the earliest moment; None if nothing fits, or moments need have no beginning."""
    need_scene(scene)
    if len(rows_of_kind(rows_in(scene), "low")) == 0 or not do_bound(scene[2]):
        return None
    return first_in_time(fitting_points(scene), -1)
