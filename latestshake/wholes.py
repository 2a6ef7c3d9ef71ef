"""Signs and floors of sums of whole numbers and of whole numbers times one or two square roots.

A number (P, Q, R) is written in whole numbers as (part + factor * root(square)) / bottom; nothing is checked here.
"""

from math import isqrt, lcm


def sign_of_whole(whole):
    """The sign of a whole number: - 1, 0, 1."""
    if whole > 0:
        return 1
    if whole < 0:
        return -1
    return 0


def sign_with_root(part, factor, square):
    """The sign of part + factor * root(square)."""
    straight, rooted = sign_of_whole(part), sign_of_whole(factor * square)
    if straight + rooted != 0:
        return sign_of_whole(straight + rooted)
    # Both are 0, or opposite: then the one with the greater square tells the sign.
    return straight * sign_of_whole(part * part - factor * factor * square)


def sign_with_two_roots(part, factor, square, second_factor, second_square):
    """The sign of part + factor * root(square) + second_factor * root(second_square)."""
    first = sign_with_root(part, factor, square)
    second = sign_of_whole(second_factor * second_square)
    if first + second != 0:
        return sign_of_whole(first + second)
    # The difference of the squares of both has the first root alone.
    left = part * part + factor * factor * square - second_factor * second_factor * second_square
    return first * sign_with_root(left, 2 * part * factor, square)


def floor_with_root(part, factor, square, bottom):
    """The greatest whole number up to (part + factor * root(square)) / bottom."""
    rooted = factor * factor * square
    whole = isqrt(rooted)
    if factor < 0:
        # A root that is no whole number lies above its floor, so less it lies below that of less the floor.
        whole = -whole if whole * whole == rooted else -whole - 1
    return (part + whole) // bottom


def on_one_bottom(fractions):
    """The tops of fractions that are brought to one bottom, and this bottom."""
    bottom = 1
    for fraction in fractions:
        bottom = lcm(bottom, fraction[1])
    return [top * (bottom // under) for top, under in fractions], bottom


def with_one_root(pairs, root):
    """The numbers (P, Q, root) of pairs (P, Q) in whole numbers: the pairs (part, factor), the square, the bottom."""
    top, under = root
    # root(top / under) is root(top * under) / under.
    bottom = 1
    for part, factor in pairs:
        bottom = lcm(bottom, part[1], factor[1] * under)
    wholes = [(p * (bottom // m), q * (bottom // (k * under))) for (p, m), (q, k) in pairs]
    return wholes, top * under, bottom
