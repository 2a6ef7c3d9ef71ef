"""Scenes (STATIONS, READINGS, SIDES): what is wrong in a value, and what a scene's rows let."""

from latestshake.errors import InvalidPlace, InvalidScene
from latestshake.hearing import spot_of
from latestshake.kinds import is_tuple_of
from latestshake.names import is_name
from latestshake.numbers import is_fraction
from latestshake.points import is_pair, need_point
from latestshake.readings import are_ends, is_end
from latestshake.rows import is_let_by, is_shut_by, is_within, moments_by, rows_in, rows_of_kind, sign_at
from latestshake.sides import MOST_SIDES, wrong_in_side

MOST_STATIONS = 12
MOST_READINGS = 12
# By signs: - 1, 0, 1 and 1 more are the indexes.
STATES = ("holds", "tight", "broken")


def wrong_in_station(station, ahead):
    """The path, from a station on, of what is wrong first in it, or beside the stations ahead of it; None."""
    if not is_tuple_of(station, 3, 3):
        return ()
    if not is_name(station[0]):
        return (0,)
    for index in (1, 2):
        if not is_fraction(station[index]):
            return (index,)
    if any([station[0] == other[0] or station[1:] == other[1:] for other in ahead]):
        return ()
    return None


def wrong_in_reading(reading, names):
    """The path, from a reading on, of what is wrong first in it, for stations of these names; None."""
    if not is_tuple_of(reading, 3, 3):
        return ()
    name, low, high = reading
    if not is_name(name) or name not in names:
        return (0,)
    for index in (1, 2):
        if not is_end(reading[index]):
            return (index,)
    return None if are_ends(low, high) else ()


def first_wrong(index, paths):
    """The first path that is told, led on from the part of the scene at this index; None."""
    for at, path in enumerate(paths):
        if path is not None:
            return (index, at, *path)
    return None


def wrong_in(value):
    """The path of what is wrong first in a value, whatever it is; None for a scene."""
    if not is_tuple_of(value, 3, 3):
        return ()
    stations, readings, sides = value
    if not is_tuple_of(stations, 1, MOST_STATIONS):
        return (0,)
    for index, station in enumerate(stations):
        # One by one, as the stations ahead have to be right themselves to be looked at beside this one.
        path = wrong_in_station(station, stations[:index])
        if path is not None:
            return (0, index, *path)
    if not is_tuple_of(readings, 0, MOST_READINGS):
        return (1,)
    names = [name for name, _, _ in stations]
    path = first_wrong(1, [wrong_in_reading(reading, names) for reading in readings])
    if path is not None:
        return path
    if not is_tuple_of(sides, 0, MOST_SIDES):
        return (2,)
    return first_wrong(2, [wrong_in_side(side) for side in sides])


def is_scene(value):
    """Whether a value, whatever it is, is a scene."""
    return wrong_in(value) is None


def need_scene(scene):
    """Refuse what is no scene."""
    path = wrong_in(scene)
    if path is not None:
        raise InvalidScene(path)


def scene_with(scene, sides):
    """A scene with more sides behind its own."""
    stations, readings, own = scene
    return stations, readings, own + sides


def need_place(place):
    """Refuse what is no pair of fractions."""
    if not is_pair(place):
        raise InvalidPlace(place)


def rows_of(scene):
    """The rows of a scene, in order: pairs of "high", "low" or "side" and the index of a reading or a side."""
    need_scene(scene)
    return tuple([row[:2] for row in rows_in(scene)])


def states_at(scene, point):
    """For each row of a scene "tight", "broken" or "holds", as it is at a point."""
    need_scene(scene)
    need_point(point)
    spot = spot_of(point)
    return tuple([STATES[sign_at(row, spot) + 1] for row in rows_in(scene)])


def is_let(scene, point):
    """Whether no row of a scene is broken at a point."""
    need_scene(scene)
    need_point(point)
    return is_let_by(rows_in(scene), point)


def moments_at(scene, place):
    """The first and the last moment that a scene lets at a place, None for no end; None if it lets none there."""
    need_scene(scene)
    need_place(place)
    return moments_by(rows_in(scene), place)


def broken_pair(scene, place):
    """The first low row, and the first high row beside it, that let no moment at a place together; None."""
    need_scene(scene)
    need_place(place)
    rows = rows_in(scene)
    highs = rows_of_kind(rows, "high")
    for low in rows_of_kind(rows, "low"):
        for high in highs:
            if is_shut_by(low, high, place):
                return low[:2], high[:2]
    return None


def within_sides(scene, place):
    """Whether a place is within all sides of a scene."""
    need_scene(scene)
    need_place(place)
    return is_within(rows_in(scene), place)
