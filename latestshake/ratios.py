"""Fractions: pairs (n, m) of whole numbers in lowest terms, m above 0. Nothing is checked here."""

from math import gcd, isqrt

NIL = (0, 1)
ONE = (1, 1)


def reduced(top, bottom):
    """The fraction top / bottom, for a bottom above 0."""
    divisor = gcd(top, bottom)
    return top // divisor, bottom // divisor


def added(first, second):
    """Both fractions together."""
    return reduced(first[0] * second[1] + second[0] * first[1], first[1] * second[1])


def negative(fraction):
    """The fraction with the other sign."""
    return -fraction[0], fraction[1]


def multiplied(first, second):
    """The first fraction times the second one."""
    return reduced(first[0] * second[0], first[1] * second[1])


def is_above(first, second):
    """Whether the first fraction is above the second one."""
    return first[0] * second[1] > second[0] * first[1]


def root_of(fraction):
    """The square root of a fraction from 0 on, if it is a fraction, otherwise None."""
    # In lowest terms a fraction is a square only if its top and its bottom both are.
    top, bottom = isqrt(fraction[0]), isqrt(fraction[1])
    if top * top == fraction[0] and bottom * bottom == fraction[1]:
        return top, bottom
    return None
