"""Leads (A, B, IS_MIRRORED, SHIFT, BY, LATER): scenes turned, mirrored, stretched and shifted, also in time."""

from latestshake.errors import InvalidLead
from latestshake.kinds import is_tuple_of
from latestshake.numbers import is_fraction, need_fraction
from latestshake.points import is_pair
from latestshake.ratios import NIL, ONE, added, multiplied, negative
from latestshake.scenes import need_place, need_scene


def is_lead(value):
    """Whether a value, whatever it is, is a lead."""
    if not is_tuple_of(value, 6, 6):
        return False
    a, b, is_mirrored, shift, by, later = value
    if not is_fraction(a) or not is_fraction(b) or not isinstance(is_mirrored, bool) or not is_pair(shift):
        return False
    if not is_fraction(by) or by[0] <= 0 or not is_fraction(later):
        return False
    return added(multiplied(a, a), multiplied(b, b)) == ONE


def need_lead(lead):
    """Refuse what is no lead."""
    if not is_lead(lead):
        raise InvalidLead(lead)


def turned(lead, pair):
    """A pair of fractions mirrored, if the lead mirrors, then turned."""
    a, b, is_mirrored = lead[:3]
    x, y = pair
    if is_mirrored:
        y = negative(y)
    return added(multiplied(a, x), negative(multiplied(b, y))), added(multiplied(b, x), multiplied(a, y))


def place_by(lead, place):
    """As led_place, of arguments that are known to be right."""
    (x, y), (east, north), by = turned(lead, place), lead[3], lead[4]
    return added(multiplied(by, x), east), added(multiplied(by, y), north)


def moment_by(lead, moment):
    """As led_moment, of arguments that are known to be right; None stays None."""
    if moment is None:
        return None
    return added(multiplied(lead[4], moment), lead[5])


def side_by(lead, side):
    """A side led."""
    (u, v), (east, north) = turned(lead, side[:2]), lead[3]
    return u, v, added(multiplied(lead[4], side[2]), added(multiplied(u, east), multiplied(v, north)))


def led_place(lead, place):
    """Where a lead leads a place."""
    need_lead(lead)
    need_place(place)
    return place_by(lead, place)


def led_moment(lead, moment):
    """Where a lead leads a moment."""
    need_lead(lead)
    need_fraction(moment)
    return moment_by(lead, moment)


def led_scene(lead, scene):
    """The scene whose stations, readings and sides are led: each row is broken, tight, holds there as it was ahead."""
    need_lead(lead)
    need_scene(scene)
    stations, readings, sides = scene
    return (
        tuple([(name, *place_by(lead, (x, y))) for name, x, y in stations]),
        tuple([(name, moment_by(lead, low), moment_by(lead, high)) for name, low, high in readings]),
        tuple([side_by(lead, side) for side in sides]),
    )


def behind(lead, later):
    """The one lead that leads as the first one and then the later one."""
    need_lead(lead)
    need_lead(later)
    a, b, is_mirrored, shift, by, late = lead
    # A turn behind a mirror is the other way round ahead of it: the later lead turns what the first one turns to.
    a, b = turned(later, (a, b))
    return a, b, is_mirrored != later[2], place_by(later, shift), multiplied(by, later[4]), moment_by(later, late)


def back(lead):
    """The lead that undoes a lead."""
    need_lead(lead)
    a, b, is_mirrored, shift, by, late = lead
    less = (by[1], by[0])
    if not is_mirrored:
        b = negative(b)
    still = (a, b, is_mirrored, (NIL, NIL), less, NIL)
    east, north = place_by(still, shift)
    return a, b, is_mirrored, (negative(east), negative(north)), less, negative(moment_by(still, late))
