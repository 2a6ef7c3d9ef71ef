"""Entries of a book: (STATIONS, READINGS, SIDES), each ascending by the name or the label ahead in each of its rows.

A station is (NAME, X, Y), a reading (LABEL, NAME, LOW, HIGH), a side (LABEL, U, V, C).
"""

from latestshake.rows import rows_in

NO_ENTRIES = ((), (), ())


def entry_named(rows, name):
    """The row with a name or a label; None."""
    for row in rows:
        if row[0] == name:
            return row
    return None


def rows_without(rows, name):
    """The rows but that with a name or a label."""
    return tuple([row for row in rows if row[0] != name])


def rows_with(rows, row):
    """The rows with one more, in the place of that of its name or label."""
    return tuple(sorted([*rows_without(rows, row[0]), row], key=lambda other: other[0]))


def labels_of(rows):
    """The names or labels of rows, ascending."""
    return tuple([row[0] for row in rows])


def scene_in(entries):
    """The scene of a book's entries; None without a station."""
    stations, readings, sides = entries
    if len(stations) == 0:
        return None
    return stations, tuple([row[1:] for row in readings]), tuple([row[1:] for row in sides])


def named_rows(entries):
    """The rows of a book's scene that has a station, and beside them their names: pairs of a kind and a label."""
    rows = rows_in(scene_in(entries))
    labels = {"high": labels_of(entries[1]), "low": labels_of(entries[1]), "side": labels_of(entries[2])}
    return rows, [(row[0], labels[row[0]][row[1]]) for row in rows]
