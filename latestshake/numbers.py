"""Numbers (P, Q, R): the fraction P and the fraction Q times the square root of the fraction R together."""

from math import gcd

from latestshake.counts import need_many, need_places
from latestshake.decimals import ten_to, with_point
from latestshake.errors import InvalidFraction, InvalidNumber
from latestshake.kinds import is_tuple_of, is_whole
from latestshake.ratios import NIL, added, multiplied, root_of
from latestshake.wholes import floor_with_root, sign_with_root, sign_with_two_roots, with_one_root


def is_fraction(value):
    """Whether a value, whatever it is, is a pair of whole numbers in lowest terms, the second one above 0."""
    if not is_tuple_of(value, 2, 2):
        return False
    top, bottom = value
    return is_whole(top) and is_whole(bottom) and bottom > 0 and gcd(top, bottom) == 1


def is_number(value):
    """Whether a value, whatever it is, is a triple of fractions, the last one from 0 on."""
    if not is_tuple_of(value, 3, 3):
        return False
    return all([is_fraction(part) for part in value]) and value[2][0] >= 0


def need_fraction(fraction):
    """Refuse what is no fraction."""
    if not is_fraction(fraction):
        raise InvalidFraction(fraction)


def need_number(number):
    """Refuse what is no number."""
    if not is_number(number):
        raise InvalidNumber(number)


def in_wholes(number):
    """A number in whole numbers: its part, the factor of its root, the square under this root, its bottom."""
    part, factor, root = number
    wholes, square, bottom = with_one_root([(part, factor)], root)
    return wholes[0][0], wholes[0][1], square, bottom


def order_of(number, other):
    """As compared, of arguments that are known to be right."""
    part, factor, square, bottom = in_wholes(number)
    other_part, other_factor, other_square, other_bottom = in_wholes(other)
    left = part * other_bottom - other_part * bottom
    return sign_with_two_roots(left, factor * other_bottom, square, -other_factor * bottom, other_square)


def first_furthest(numbers, way):
    """The first one of the greatest numbers for the way 1, of the least ones for - 1; None of no numbers."""
    found = None
    for number in numbers:
        if found is None or order_of(number, found) == way:
            found = number
    return found


def floor_of(number, many):
    """As floor_at, of arguments that are known to be right."""
    part, factor, square, bottom = in_wholes(number)
    return floor_with_root(part * many, factor * many, square, bottom)


def sign_of(number):
    """The sign of a number: - 1, 0, 1."""
    need_number(number)
    part, factor, square, _ = in_wholes(number)
    return sign_with_root(part, factor, square)


def compared(number, other):
    """- 1, 0, 1 as the first number is below, at, above the other one."""
    need_number(number)
    need_number(other)
    return order_of(number, other)


def plus(number, fraction):
    """A number and a fraction together."""
    need_number(number)
    need_fraction(fraction)
    part, factor, root = number
    return added(part, fraction), factor, root


def times(number, fraction):
    """A number times a fraction."""
    need_number(number)
    need_fraction(fraction)
    part, factor, root = number
    return multiplied(part, fraction), multiplied(factor, fraction), root


def square_of(number):
    """A number times itself."""
    need_number(number)
    part, factor, root = number
    rooted = multiplied(multiplied(factor, factor), root)
    return added(multiplied(part, part), rooted), multiplied((2, 1), multiplied(part, factor)), root


def plain_of(number):
    """The number told by a triple whose root is needed: without one if it is a fraction."""
    need_number(number)
    part, factor, root = number
    if factor == NIL:
        return part, NIL, NIL
    side = root_of(root)
    if side is None:
        return number
    return added(part, multiplied(factor, side)), NIL, NIL


def floor_at(number, many):
    """The greatest whole number up to many times the number."""
    need_number(number)
    need_many(many)
    return floor_of(number, many)


def figures(number, places):
    """The greatest decimal with so many places behind the point that is not above the number."""
    need_number(number)
    need_places(places)
    return with_point(floor_of(number, ten_to(places)), places)
