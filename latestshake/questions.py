"""Questions about places: whether a shake can have been within sides, whether surely, what of a polygon is let."""

from latestshake.candidates import point_fitting
from latestshake.errors import InvalidCorners, TooMany
from latestshake.kinds import is_tuple_of
from latestshake.points import is_pair
from latestshake.polygons import LEAST_CORNERS, MOST_CORNERS, places_to_ask, turns_left_once
from latestshake.rows import is_shut_by, is_within, rows_in, rows_of_kind
from latestshake.scenes import need_scene, scene_with
from latestshake.sides import MOST_SIDES, need_sides, opposite_side


def need_room(scene, many, sides):
    """Refuse sides of which so many are more than can be taken in."""
    if len(scene[2]) + many > MOST_SIDES:
        raise TooMany(sides)


def need_corners(corners):
    """Refuse what tells no polygon."""
    if not is_tuple_of(corners, LEAST_CORNERS, MOST_CORNERS):
        raise InvalidCorners(None)
    for index, place in enumerate(corners):
        if not is_pair(place):
            raise InvalidCorners(index)
    if not turns_left_once(corners):
        raise InvalidCorners(None)


def possibly(scene, sides):
    """A point that fits a scene, its place within all of the sides, too; None if there is none."""
    need_scene(scene)
    need_sides(sides)
    need_room(scene, len(sides), sides)
    return point_fitting(scene_with(scene, sides))


def surely(scene, sides):
    """Whether something fits a scene, and each place of what fits lies strictly within all of the sides."""
    need_scene(scene)
    need_sides(sides)
    need_room(scene, min(len(sides), 1), sides)
    if point_fitting(scene) is None:
        return False
    return all([point_fitting(scene_with(scene, (opposite_side(side),))) is None for side in sides])


def shut_place(scene, corners):
    """A place of a polygon that a scene does not let; None if it lets all of them."""
    need_scene(scene)
    need_corners(corners)
    rows = rows_in(scene)
    for place in corners:
        if not is_within(rows, place):
            return place
    highs = rows_of_kind(rows, "high")
    for low in rows_of_kind(rows, "low"):
        for high in highs:
            for place in places_to_ask(low, high, corners):
                if is_shut_by(low, high, place):
                    return place
    return None


def is_polygon(value):
    """Whether a value, whatever it is, tells a polygon."""
    if not is_tuple_of(value, LEAST_CORNERS, MOST_CORNERS):
        return False
    return all([is_pair(place) for place in value]) and turns_left_once(value)
