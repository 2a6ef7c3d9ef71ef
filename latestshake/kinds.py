"""Kinds of values: what a value is, whatever it is."""


def is_whole(value):
    """Whether a value is a whole number."""
    return isinstance(value, int) and not isinstance(value, bool)


def is_index(value, many):
    """Whether a value is the index of one of so many things."""
    return is_whole(value) and 0 <= value < many


def is_tuple_of(value, least, most):
    """Whether a value is a tuple of at least and at most so many elements."""
    return isinstance(value, tuple) and least <= len(value) <= most
