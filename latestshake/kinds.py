"""Kinds of values: what a value is, whatever it is."""


def is_whole(value):
    """Whether a value is a whole number."""
    return isinstance(value, int) and not isinstance(value, bool)


def is_tuple_of(value, least, most):
    """Whether a value is a tuple of at least and at most so many elements."""
    return isinstance(value, tuple) and least <= len(value) <= most
