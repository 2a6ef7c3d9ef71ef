"""Books: stations, readings and sides that are put, struck, and undone, and what the scene of them answers."""

from latestshake.candidates import first_in_time
from latestshake.entries import NO_ENTRIES, entry_named, labels_of, rows_with, rows_without, scene_in
from latestshake.errors import InUse, InvalidReading, InvalidSide, NoStation, NothingToRedo, NothingToUndo
from latestshake.errors import SamePlace, Taken, TooMany, Unknown
from latestshake.keeping import NOTHING, kept_behind
from latestshake.lots import least_of, lot_in
from latestshake.names import need_name
from latestshake.numbers import need_fraction
from latestshake.readings import are_ends
from latestshake.rows import rows_of_kind
from latestshake.scenes import MOST_READINGS, MOST_STATIONS
from latestshake.sides import MOST_SIDES, is_side


def need_known(rows, name):
    """Refuse a name or a label that none of the rows has."""
    if entry_named(rows, name) is None:
        raise Unknown(name)


def need_untaken(rows, label):
    """Refuse a label that one of the rows has."""
    if entry_named(rows, label) is not None:
        raise Taken(label)


def need_room(rows, name, most):
    """Refuse a row more than the most, but in the place of one."""
    if entry_named(rows, name) is None and len(rows) >= most:
        raise TooMany(name)


class Book:
    """Stations under their names, readings and sides under labels; what is known of their scene's candidates."""

    def __init__(self):
        self._entries = NO_ENTRIES
        self._past = []
        self._undone = []
        self._known = NOTHING
        self._last_work = None

    def _lead_to(self, entries):
        """Have other entries, and look at what is fresh in their scene."""
        self._known, self._last_work = kept_behind(self._known, entries)
        self._entries = entries

    def _step_to(self, stations, readings, sides):
        """Do a step, behind which nothing can be redone."""
        self._past.append(self._entries)
        self._undone = []
        self._lead_to((stations, readings, sides))

    def _need_scene(self):
        """Refuse to answer without a station."""
        if scene_in(self._entries) is None:
            raise NoStation()

    def _fitting_points(self):
        """The kept points at which no row is broken."""
        return [point for _, point, broken in self._known[2] if len(broken) == 0]

    def put_station(self, name, x, y):
        """Put a station, in the place of that of its name."""
        need_name(name)
        need_fraction(x)
        need_fraction(y)
        stations, readings, sides = self._entries
        for other, east, north in stations:
            if other != name and (east, north) == (x, y):
                raise SamePlace(other)
        need_room(stations, name, MOST_STATIONS)
        self._step_to(rows_with(stations, (name, x, y)), readings, sides)

    def strike_station(self, name):
        """Strike a station that no reading names."""
        need_name(name)
        stations, readings, sides = self._entries
        need_known(stations, name)
        for label, owner, _, _ in readings:
            if owner == name:
                raise InUse(label)
        self._step_to(rows_without(stations, name), readings, sides)

    def put_reading(self, label, name, low, high):
        """Put a reading of a station, in the place of that of its label."""
        need_name(label)
        need_name(name)
        if not are_ends(low, high):
            raise InvalidReading((low, high))
        stations, readings, sides = self._entries
        need_untaken(sides, label)
        need_known(stations, name)
        need_room(readings, label, MOST_READINGS)
        self._step_to(stations, rows_with(readings, (label, name, low, high)), sides)

    def put_side(self, label, u, v, c):
        """Put a side, in the place of that of its label."""
        need_name(label)
        if not is_side((u, v, c)):
            raise InvalidSide((u, v, c))
        stations, readings, sides = self._entries
        need_untaken(readings, label)
        need_room(sides, label, MOST_SIDES)
        self._step_to(stations, readings, rows_with(sides, (label, u, v, c)))

    def strike(self, label):
        """Strike the reading or the side of a label."""
        need_name(label)
        stations, readings, sides = self._entries
        need_known(readings + sides, label)
        self._step_to(stations, rows_without(readings, label), rows_without(sides, label))

    def undo(self):
        """Lead back to what was ahead of the last step that was not undone."""
        if len(self._past) == 0:
            raise NothingToUndo()
        self._undone.append(self._entries)
        self._lead_to(self._past.pop())

    def redo(self):
        """Undo the last undo behind which no step came."""
        if len(self._undone) == 0:
            raise NothingToRedo()
        self._past.append(self._entries)
        self._lead_to(self._undone.pop())

    def scene(self):
        """The scene of what the book has; None without a station."""
        return scene_in(self._entries)

    def labels(self):
        """The labels of the readings, and those of the sides, in the order of the scene."""
        return labels_of(self._entries[1]), labels_of(self._entries[2])

    def work(self):
        """How many candidates stayed, were made, how many pairs with rows were looked at, in what was done last."""
        return self._last_work

    def steps(self):
        """How many steps could be undone."""
        return len(self._past)

    def kept(self):
        """The candidates of the scene: the indexes of their rows, their points, and those of the rows broken there."""
        return tuple(self._known[2])

    def fits(self):
        """Whether something fits the scene."""
        self._need_scene()
        return len(self._fitting_points()) > 0

    def latest(self):
        """A point that fits the scene with the latest moment; None if nothing fits, or moments have no end."""
        self._need_scene()
        if len(rows_of_kind(self._known[1], "high")) == 0:
            return None
        return first_in_time(self._fitting_points(), 1)

    def least_wrong(self):
        """The least lots of readings that must be wrong, as labels."""
        self._need_scene()
        broken_lots = [lot_in(self._known[1], broken) for _, _, broken in self._known[2]]
        lots = least_of([lot for lot in broken_lots if lot is not None])
        labels = labels_of(self._entries[1])
        return tuple([tuple([labels[index] for index in lot]) for lot in lots])
