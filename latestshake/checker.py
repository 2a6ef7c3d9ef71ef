"""The checker: whether a paper shows a claim. It makes the candidates itself, and looks where the paper tells it to."""

from latestshake.candidates import told_in
from latestshake.counts import MOST_WRONG, is_count
from latestshake.hearing import spot_of
from latestshake.kinds import is_index, is_tuple_of, is_whole
from latestshake.lots import is_lot, least_of, less_one, lot_in, scene_of_lot, scene_without
from latestshake.numbers import order_of
from latestshake.points import is_point, moment_of
from latestshake.rows import broken_at, is_let_by, rows_in, rows_of_kind, sign_at
from latestshake.scenes import is_scene, scene_with
from latestshake.sides import MOST_SIDES, is_side


def are_more_sides(scene, value):
    """Whether a value is a tuple of sides that a scene can take in."""
    return is_tuple_of(value, 0, MOST_SIDES - len(scene[2])) and all([is_side(side) for side in value])


def is_any_point(scene, value):
    """Whether a value is a point, of whatever scene."""
    return is_point(value)


def is_lot_of(scene, value):
    """Whether a value is a lot of a scene."""
    return is_lot(value, len(scene[1]))


def are_least(scene, value):
    """Whether a value is a tuple of lots of a scene, ascending, none of them within another one."""
    if not isinstance(value, tuple) or not all([is_lot_of(scene, lot) for lot in value]):
        return False
    return least_of(value) == value


def is_number_wrong(scene, value):
    """Whether a value is a number of readings that may be wrong, whatever a scene has."""
    return is_count(value, 0, MOST_WRONG)


# What stands behind the scene of a claim; a claim of a word that is not among these ends with the scene.
BEHIND = {
    "possibly": are_more_sides, "never": are_more_sides, "latest": is_any_point, "later": is_any_point,
    "enough": is_lot_of, "not enough": is_lot_of, "least lots": are_least, "conflict": is_lot_of,
    "likely": is_number_wrong, "not likely": is_number_wrong,
}
ALONE = ("fits", "fits not")


def is_claim(value):
    """Whether a value, whatever it is, is a claim."""
    if not is_tuple_of(value, 2, 3) or not isinstance(value[0], str) or not is_scene(value[1]):
        return False
    if len(value) == 2:
        return value[0] in ALONE
    if value[0] not in BEHIND:
        return False
    is_right = BEHIND[value[0]]
    return is_right(value[1], value[2])


def is_list_for(candidates_told, paper):
    """Whether a paper is a tuple of as many elements as there are candidates."""
    return is_tuple_of(paper, len(candidates_told), len(candidates_told))


def fits_at(scene, paper):
    """Whether a paper is a point that fits a scene."""
    return is_point(paper) and is_let_by(rows_in(scene), paper)


def is_broken(rows, point, index):
    """Whether a value is the index of a row that is broken at a point."""
    return is_index(index, len(rows)) and sign_at(rows[index], spot_of(point)) > 0


def are_broken(scene, paper):
    """Whether a paper tells a broken row of a scene for each of its candidates."""
    rows, told = rows_in(scene), told_in(scene)
    return is_list_for(told, paper) and all([is_broken(rows, point, index) for (_, point), index in zip(told, paper)])


def is_no_later(rows, candidate, point, index):
    """Whether an index is that of a row broken at a candidate, or - 1, and the candidate is not later than a point."""
    if is_whole(index) and index == -1:
        return order_of(moment_of(candidate), moment_of(point)) <= 0
    return is_broken(rows, candidate, index)


def shows_latest(scene, point, paper):
    """Whether a point fits, and a paper tells for each candidate why it does not fit at a later moment."""
    rows, told = rows_in(scene), told_in(scene)
    if len(rows_of_kind(rows, "high")) == 0 or not is_let_by(rows, point) or not is_list_for(told, paper):
        return False
    return all([is_no_later(rows, candidate, point, index) for (_, candidate), index in zip(told, paper)])


def shows_later(scene, point, paper):
    """Whether a paper is a point that fits a scene and is later than a point."""
    return fits_at(scene, paper) and order_of(moment_of(paper), moment_of(point)) > 0


def is_reason(value, word):
    """Whether a value is a pair of a word and what is told behind it."""
    return is_tuple_of(value, 2, 2) and isinstance(value[0], str) and value[0] == word


def breaks_side(rows, point, reason):
    """Whether a reason tells a side that a point breaks."""
    return is_reason(reason, "side") and is_broken(rows_of_kind(rows, "side"), point, reason[1])


def breaks_all(rows, point, lot):
    """Whether a point breaks each reading of a lot."""
    heard = [row for row in rows if row[0] != "side"]
    broken = lot_in(heard, broken_at(heard, point))
    return all([index in broken for index in lot])


def breaks_least(rows, point, lots, reason):
    """Whether a reason tells a side, or one of the lots, that a point breaks."""
    if is_reason(reason, "lot") and is_index(reason[1], len(lots)):
        return breaks_all(rows, point, lots[reason[1]])
    return breaks_side(rows, point, reason)


def shows_least(scene, lots, paper):
    """Whether a paper tells a point for each of the lots, and for each candidate what it breaks."""
    if not is_tuple_of(paper, 2, 2):
        return False
    (points, reasons), rows, told = paper, rows_in(scene), told_in(scene)
    if not is_tuple_of(points, len(lots), len(lots)) or not is_list_for(told, reasons):
        return False
    if not all([fits_at(scene_without(scene, lot), point) for lot, point in zip(lots, points)]):
        return False
    return all([breaks_least(rows, point, lots, reason) for (_, point), reason in zip(told, reasons)])


def shows_conflict(scene, lot, paper):
    """Whether a paper tells broken rows of a lot alone, and a point for it without each one of its readings."""
    if not is_tuple_of(paper, 2, 2) or not is_tuple_of(paper[1], len(lot), len(lot)):
        return False
    if not are_broken(scene_of_lot(scene, lot), paper[0]):
        return False
    others = [scene_of_lot(scene, less_one(lot, index)) for index in lot]
    return all([fits_at(other, point) for other, point in zip(others, paper[1])])


def shows_likely(scene, many, paper):
    """Whether a paper is a point that breaks no side and at most so many readings."""
    if not is_point(paper):
        return False
    rows = rows_in(scene)
    lot = lot_in(rows, broken_at(rows, paper))
    return lot is not None and len(lot) <= many


def breaks_more(rows, point, many, reason, readings):
    """Whether a reason tells a side, or more than so many readings, that a point breaks."""
    if is_reason(reason, "readings") and is_lot(reason[1], readings):
        return len(reason[1]) > many and breaks_all(rows, point, reason[1])
    return breaks_side(rows, point, reason)


def shows_not_likely(scene, many, paper):
    """Whether a paper tells for each candidate a side, or too many readings, that it breaks."""
    rows, told, readings = rows_in(scene), told_in(scene), len(scene[1])
    if not is_list_for(told, paper):
        return False
    return all([breaks_more(rows, point, many, reason, readings) for (_, point), reason in zip(told, paper)])


SHOWING = {
    "latest": shows_latest, "later": shows_later, "least lots": shows_least, "conflict": shows_conflict,
    "likely": shows_likely, "not likely": shows_not_likely,
}


def scene_asked(claim):
    """The scene of which a claim tells whether something fits it."""
    if claim[0] in ("possibly", "never"):
        return scene_with(claim[1], claim[2])
    if claim[0] in ("enough", "not enough"):
        return scene_without(claim[1], claim[2])
    return claim[1]


def accepts(claim, paper):
    """Whether a claim, whatever it is, is one, and a paper, whatever it is, shows it."""
    if not is_claim(claim):
        return False
    if claim[0] in ("fits", "possibly", "enough"):
        return fits_at(scene_asked(claim), paper)
    if claim[0] in ("fits not", "never", "not enough"):
        return are_broken(scene_asked(claim), paper)
    shows = SHOWING[claim[0]]
    return shows(claim[1], claim[2], paper)
