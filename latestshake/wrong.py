"""Readings that must be wrong: all least lots of them, by one look at the candidates of a scene."""

from latestshake.candidates import first_in_time, looked_at, point_fitting
from latestshake.counts import need_wrong
from latestshake.lots import least_meeting, least_of, lot_in, need_lot, scene_without
from latestshake.points import need_point
from latestshake.rows import broken_at, rows_in
from latestshake.scenes import need_scene


def lots_looked_at(scene):
    """For each candidate the lot that it breaks, None if it breaks a side, too, its point, and its broken rows."""
    rows = rows_in(scene)
    return [(lot_in(rows, broken), point, broken) for _, point, broken in looked_at(scene)]


def sound_candidates(scene):
    """For each candidate that breaks no side the lot that it breaks, and its point."""
    return [(lot, point) for lot, point, _ in lots_looked_at(scene) if lot is not None]


def least_in(scene):
    """As least_lots, of a scene that is known to be right."""
    return least_of([lot for lot, _ in sound_candidates(scene)])


def fewest_in(scene):
    """As fewest, of a scene that is known to be right."""
    lots = least_in(scene)
    fewest_readings = min([len(lot) for lot in lots], default=0)
    return tuple([lot for lot in lots if len(lot) == fewest_readings])


def likely_points(scene, many):
    """The points of the candidates that break no side and at most so many readings."""
    return [point for lot, point in sound_candidates(scene) if len(lot) <= many]


def broken_by(scene, point):
    """The lot of readings that a point breaks, whatever sides it breaks."""
    need_scene(scene)
    need_point(point)
    rows = rows_in((scene[0], scene[1], ()))
    return lot_in(rows, broken_at(rows, point))


def point_without(scene, lot):
    """A point that fits a scene without a lot; None if there is none."""
    need_scene(scene)
    need_lot(scene, lot)
    return point_fitting(scene_without(scene, lot))


def is_enough(scene, lot):
    """Whether something fits a scene without a lot."""
    return point_without(scene, lot) is not None


def least_lots(scene):
    """All least lots without which a scene fits, ascending."""
    need_scene(scene)
    return least_in(scene)


def fewest(scene):
    """The least lots with as few readings as any, ascending."""
    need_scene(scene)
    return fewest_in(scene)


def suspects(scene):
    """The readings in each of the least lots with as few readings as any."""
    need_scene(scene)
    lots = fewest_in(scene)
    if len(lots) == 0:
        return ()
    return tuple([index for index in range(len(scene[1])) if all([index in lot for lot in lots])])


def cleared(scene):
    """The readings in none of the least lots."""
    need_scene(scene)
    lots = least_in(scene)
    if len(lots) == 0:
        return ()
    return tuple([index for index in range(len(scene[1])) if not any([index in lot for lot in lots])])


def conflicts(scene):
    """All lots of readings that do not fit alone, but do without any one of them, ascending."""
    need_scene(scene)
    return least_meeting(least_in(scene), len(scene[1]))


def least_stations(scene):
    """All least lots of stations, told by indexes, without all readings of which a scene fits, ascending."""
    need_scene(scene)
    places = {name: index for index, (name, _, _) in enumerate(scene[0])}
    owners = [places[name] for name, _, _ in scene[1]]
    return least_of([tuple(sorted({owners[index] for index in lot})) for lot, _ in sound_candidates(scene)])


def likely_point(scene, many):
    """A point that breaks no side and at most so many readings; None if there is none."""
    need_scene(scene)
    need_wrong(many)
    points = likely_points(scene, many)
    return None if len(points) == 0 else points[0]


def latest_likely(scene, many):
    """A point with the latest moment of those that break no side and at most so many readings; None."""
    need_scene(scene)
    need_wrong(many)
    # The readings with a HIGH may all be wrong, if they are no more: the others let moments as late as one likes.
    if len([high for _, _, high in scene[1] if high is not None]) <= many:
        return None
    return first_in_time(likely_points(scene, many), 1)
