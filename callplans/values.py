"""Tells of any value whether it is an integer or a range."""


def is_integer(value):
    """Tells whether a value is an integer; True and False are none."""
    return isinstance(value, int) and not isinstance(value, bool)


def is_range(value, least):
    """Tells whether a value is a range (low, high) of integers that are not below least."""
    if not isinstance(value, tuple) or len(value) != 2:
        return False
    low, high = value
    return is_integer(low) and is_integer(high) and least <= low <= high
