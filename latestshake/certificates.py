"""Certificates: of a claim and its opposite the one that is so, and a paper that shows it to the checker."""

from latestshake.candidates import first_in_time, looked_at, point_fitting
from latestshake.counts import need_wrong
from latestshake.lots import least_of, less_one, need_lot, scene_of_lot, scene_without
from latestshake.numbers import order_of
from latestshake.points import moment_of
from latestshake.questions import need_room
from latestshake.rows import rows_in, rows_of_kind
from latestshake.scenes import need_scene, scene_with
from latestshake.sides import need_sides
from latestshake.wrong import lots_looked_at


def broken_rows(scene):
    """For each candidate of a scene that nothing fits the first row that is broken there."""
    return tuple([broken[0] for _, _, broken in looked_at(scene)])


def settled(scene, claim, opposite):
    """The claim that something fits a scene, or the opposite one, whichever is so, and its paper."""
    point = point_fitting(scene)
    return (opposite, broken_rows(scene)) if point is None else (claim, point)


def side_reason(rows, broken):
    """The reason that tells the first side among broken rows."""
    return "side", [rows[index][1] for index in broken if rows[index][0] == "side"][0]


def lot_reason(lots, lot):
    """The reason that tells the first one of the lots that lies within a lot."""
    return "lot", [at for at, other in enumerate(lots) if all([index in lot for index in other])][0]


def certify_fits(scene):
    """The claim "fits" or "fits not" of a scene, and its paper."""
    need_scene(scene)
    return settled(scene, ("fits", scene), ("fits not", scene))


def certify_in(scene, sides):
    """The claim "possibly" or "never" of a scene within more sides, and its paper."""
    need_scene(scene)
    need_sides(sides)
    need_room(scene, len(sides), sides)
    return settled(scene_with(scene, sides), ("possibly", scene, sides), ("never", scene, sides))


def certify_latest(scene):
    """The claim "latest" of a scene and its latest point, and its paper; None if there is no latest point."""
    need_scene(scene)
    looked = looked_at(scene)
    point = first_in_time([value for _, value, broken in looked if len(broken) == 0], 1)
    if point is None or len(rows_of_kind(rows_in(scene), "high")) == 0:
        return None
    last = moment_of(point)
    # A candidate that fits is not later than the latest one that does.
    paper = [-1 if order_of(moment_of(value), last) <= 0 else broken[0] for _, value, broken in looked]
    return ("latest", scene, point), tuple(paper)


def certify_lot(scene, lot):
    """The claim "enough" or "not enough" of a lot of a scene, and its paper."""
    need_scene(scene)
    need_lot(scene, lot)
    return settled(scene_without(scene, lot), ("enough", scene, lot), ("not enough", scene, lot))


def certify_least(scene):
    """The claim "least lots" of a scene and all its least lots, and its paper."""
    need_scene(scene)
    rows, looked = rows_in(scene), lots_looked_at(scene)
    lots = least_of([lot for lot, _, _ in looked if lot is not None])
    points = [[point for other, point, _ in looked if other == lot][0] for lot in lots]
    reasons = [side_reason(rows, broken) if lot is None else lot_reason(lots, lot) for lot, _, broken in looked]
    return ("least lots", scene, lots), (tuple(points), tuple(reasons))


def certify_conflict(scene, lot):
    """The claim "conflict" of a lot of a scene, and its paper; None if it is no conflict."""
    need_scene(scene)
    need_lot(scene, lot)
    alone = scene_of_lot(scene, lot)
    points = [point_fitting(scene_of_lot(scene, less_one(lot, index))) for index in lot]
    if point_fitting(alone) is not None or any([point is None for point in points]):
        return None
    return ("conflict", scene, lot), (broken_rows(alone), tuple(points))


def certify_likely(scene, many):
    """The claim "likely" or "not likely" of a scene and a number of readings, and its paper."""
    need_scene(scene)
    need_wrong(many)
    rows, looked = rows_in(scene), lots_looked_at(scene)
    points = [point for lot, point, _ in looked if lot is not None and len(lot) <= many]
    if len(points) > 0:
        return ("likely", scene, many), points[0]
    reasons = [side_reason(rows, broken) if lot is None else ("readings", lot) for lot, _, broken in looked]
    return ("not likely", scene, many), tuple(reasons)
