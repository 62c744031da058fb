"""Tests of numbers and of equality that the checks of arguments share."""


def is_whole(thing):
    """Tell whether any value is a whole number."""
    return isinstance(thing, int) and not isinstance(thing, bool)


def is_below(thing, limit):
    """Tell whether any value is one of the whole numbers from 0 to limit - 1."""
    return is_whole(thing) and 0 <= thing < limit


def is_same(thing, expected):
    """Tell whether any value is equal to a tuple, number, string or None, with no bool in the place of a number."""
    if isinstance(thing, tuple) and isinstance(expected, tuple):
        return len(thing) == len(expected) and all([is_same(one, other) for one, other in zip(thing, expected)])
    # For Python, True == 1 and False == 0.
    return not isinstance(thing, bool) and thing == expected
