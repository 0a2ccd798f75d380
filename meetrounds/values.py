"""Questions about single values, whatever these are, that several modules ask."""

_LONGEST_NAME = 8
_FIRST_SIGNS = "abcdefghijklmnopqrstuvwxyz"
_SIGNS = "abcdefghijklmnopqrstuvwxyz0123456789"


def is_integer(value, least, most=None):
    """Whether the value is an integer from least to most, from least on if most is None; True and False are none."""
    if not isinstance(value, int) or isinstance(value, bool):
        return False
    return least <= value and (most is None or value <= most)


def is_name(value):
    """Whether the value is a name."""
    if not isinstance(value, str) or not 1 <= len(value) <= _LONGEST_NAME:
        return False
    return value[0] in _FIRST_SIGNS and all([sign in _SIGNS for sign in value])


def is_pair(value):
    """Whether the value is a tuple of two elements."""
    return isinstance(value, tuple) and len(value) == 2
