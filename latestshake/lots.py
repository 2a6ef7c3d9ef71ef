"""Lots: ascending tuples of indexes, of the readings of a scene (or of its stations); the least ones among some."""

from latestshake.errors import InvalidLot
from latestshake.kinds import is_index


def first_wrong_in(lot, many):
    """Where in a tuple the first element stands that is no index below many above those ahead of it; None."""
    for at, index in enumerate(lot):
        if not is_index(index, many) or (at > 0 and index <= lot[at - 1]):
            return at
    return None


def is_lot(value, many):
    """Whether a value, whatever it is, is a lot of so many readings."""
    return isinstance(value, tuple) and first_wrong_in(value, many) is None


def need_lot(scene, lot):
    """Refuse what is no lot of a scene."""
    if not isinstance(lot, tuple):
        raise InvalidLot(None)
    at = first_wrong_in(lot, len(scene[1]))
    if at is not None:
        raise InvalidLot(at)


def scene_without(scene, lot):
    """The scene of all readings but those of a lot."""
    stations, readings, sides = scene
    return stations, tuple([reading for index, reading in enumerate(readings) if index not in lot]), sides


def scene_of_lot(scene, lot):
    """The scene of the readings of a lot alone."""
    stations, readings, sides = scene
    return stations, tuple([readings[index] for index in lot]), sides


def less_one(lot, index):
    """A lot without one of its elements."""
    return tuple([other for other in lot if other != index])


def lot_in(rows, broken):
    """The lot of readings of which these rows are broken; None if a side is broken, too."""
    if any([rows[index][0] == "side" for index in broken]):
        return None
    # A reading's LOW is up to its HIGH, so only one of its rows is broken.
    return tuple([rows[index][1] for index in broken])


def mask_of(lot):
    """The whole number whose bits at the indexes of a lot are 1."""
    return sum([1 << index for index in lot])


def lot_of(mask):
    """The lot of a whole number."""
    return tuple([index for index in range(mask.bit_length()) if mask >> index & 1 == 1])


def least_of(lots):
    """The least ones of some lots, ascending: those within which no other one lies."""
    found = []
    for lot in sorted(lots, key=len):
        mask = mask_of(lot)
        if not any([other & mask == other for other in found]):
            found.append(mask)
    return tuple(sorted([lot_of(least) for least in found]))


def least_meeting(lots, many):
    """The least lots of so many elements that have an element of each of some lots, ascending."""
    masks = [mask_of(lot) for lot in lots]
    meets = [all([other & told != 0 for other in masks]) for told in range(1 << many)]
    found = []
    for mask in range(1 << many):
        # None of them is least that still meets all without one of its elements.
        if meets[mask] and not any([meets[mask ^ (1 << index)] for index in lot_of(mask)]):
            found.append(lot_of(mask))
    return tuple(sorted(found))
