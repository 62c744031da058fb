"""Tests of numbers that the checks of arguments share."""


def is_whole(thing):
    """Tell whether any value is a whole number."""
    return isinstance(thing, int) and not isinstance(thing, bool)


def is_below(thing, limit):
    """Tell whether any value is one of the whole numbers from 0 to limit - 1."""
    return is_whole(thing) and 0 <= thing < limit
