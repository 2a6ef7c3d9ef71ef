"""What a book keeps of its scene: (NAMES, ROWS, LOOKED): the rows, their names, and what was looked at (candidates.py).

A row is known by its name, a pair of its kind and its label; so what was looked at stays while the rows around change.
"""

from latestshake.candidates import chosen_of, looked_at, points_of
from latestshake.entries import named_rows, scene_in
from latestshake.rows import broken_at

NOTHING = ((), (), ())


def has_reading(names):
    """Whether some row is a reading's."""
    return any([kind != "side" for kind, _ in names])


def indexes_behind(kept, names, rows):
    """The index that each kept row has among the new ones, for those that are there with the numbers they had."""
    new = {told: at for at, told in enumerate(names)}
    found = {}
    for index, (name, row) in enumerate(zip(kept[0], kept[1])):
        if name in new and rows[new[name]][2:] == row[2:]:
            found[index] = new[name]
    return found


def staying(kept, rows, behind, fresh):
    """By their new row indexes, the kept candidates whose rows stay: their points, and the rows broken there."""
    found = {}
    fresh_rows = [rows[index] for index in fresh]
    for chosen, point, broken in kept[2]:
        if all([index in behind for index in chosen]):
            still = [behind[index] for index in broken if index in behind]
            more = [fresh[at] for at in broken_at(fresh_rows, point)]
            told = (point, tuple(sorted(still + more)))
            found.setdefault(tuple([behind[index] for index in chosen]), []).append(told)
    return found


def kept_anew(entries, names, rows):
    """What is kept of entries, all of it made from nothing, and the work of this."""
    looked = looked_at(scene_in(entries))
    return (names, rows, looked), (0, len(looked), len(looked) * len(rows))


def kept_on(kept, names, rows):
    """What is kept of rows behind others, made as far as it was not kept, and the work of this."""
    behind = indexes_behind(kept, names, rows)
    old = list(behind.values())
    fresh = [index for index in range(len(rows)) if index not in old]
    stays = staying(kept, rows, behind, fresh)
    looked, made = [], 0
    for chosen in chosen_of(rows):
        if any([index in fresh for index in chosen]):
            new = [(chosen, point, broken_at(rows, point)) for point in points_of(rows, chosen)]
            made += len(new)
        else:
            new = [(chosen, point, broken) for point, broken in stays.get(chosen, [])]
        looked += new
    stayed = len(looked) - made
    return (names, rows, looked), (stayed, made, stayed * len(fresh) + made * len(rows))


def kept_behind(kept, entries):
    """What is kept of entries behind what was kept ahead of them, and the work of this: (STAYED, MADE, LOOKED)."""
    if scene_in(entries) is None:
        return NOTHING, (0, 0, 0)
    rows, names = named_rows(entries)
    # Without a reading the candidates rest on a reading more, that is no row.
    if not has_reading(kept[0]) or not has_reading(names):
        return kept_anew(entries, names, rows)
    return kept_on(kept, names, rows)
