"""Of what kind a value is, whatever it is."""


def is_integer(value):
    """Whether a value is an integer; booleans are not."""
    return isinstance(value, int) and not isinstance(value, bool)


def is_between(value, least, greatest):
    """Whether a value is an integer from the least to the greatest."""
    return is_integer(value) and least <= value <= greatest


def is_one_of(value, words):
    """Whether a value is one of some words."""
    return isinstance(value, str) and value in words


def is_group(value, size):
    """Whether a value is a tuple of this size."""
    return isinstance(value, tuple) and len(value) == size
