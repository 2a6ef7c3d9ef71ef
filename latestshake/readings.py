"""Readings (NAME, LOW, HIGH): what is heard at a station lies from LOW on, up to HIGH, one of which may be None."""

from latestshake.numbers import is_fraction
from latestshake.ratios import is_above


def is_end(value):
    """Whether a value, whatever it is, may stand for LOW or HIGH: a fraction, or None where it is not told."""
    return value is None or is_fraction(value)


def are_ends(low, high):
    """Whether two values, whatever they are, are the LOW and the HIGH of a reading."""
    if not is_end(low) or not is_end(high):
        return False
    if low is None or high is None:
        return low is not None or high is not None
    return not is_above(low, high)
