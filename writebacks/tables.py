"""Views, their tables of writes, and the three rules of a sound table."""

from writebacks.checks import is_below
from writebacks.errors import NoState, NoTable, NotSound, NoValue, NoView, Refused

MOST_STATES = 9


def is_view(thing):
    """Tell whether any value is a view."""
    if not isinstance(thing, tuple) or not 1 <= len(thing) <= MOST_STATES:
        return False
    # No view shows more values than it has states, so a number that is no state is no value either.
    if not all([is_below(number, len(thing)) for number in thing]):
        return False
    return len(set(thing)) == max(thing) + 1


def need_view(view):
    """Raise NoView unless the argument is a view."""
    if not is_view(view):
        raise NoView()


def count_values(view):
    """Return how many values a view has."""
    return max(view) + 1


def need_state(view, thing):
    """Raise NoState unless any value is a state of a view."""
    if not is_below(thing, len(view)):
        raise NoState()


def need_value(view, thing):
    """Raise NoValue unless any value is a value of a view."""
    if not is_below(thing, count_values(view)):
        raise NoValue()


def is_table(view, thing):
    """Tell whether any value is a table of the view, sound or not."""
    need_view(view)
    if not isinstance(thing, tuple) or len(thing) != len(view):
        return False
    return all([_is_row(view, row) for row in thing])


def _is_row(view, thing):
    if not isinstance(thing, tuple) or len(thing) != count_values(view):
        return False
    return all([entry is None or is_below(entry, len(view)) for entry in thing])


def need_table(view, table):
    """Raise NoView or NoTable unless the arguments are a view and a table of it."""
    if not is_table(view, table):
        raise NoTable()


def broken(view, table):
    """Return None for a sound table, otherwise the first rule that is broken and its smallest place."""
    need_table(view, table)
    return _broken_stay(view, table) or _broken_shown(view, table) or _broken_forget(table)


def _broken_stay(view, table):
    for state, value in enumerate(view):
        if table[state][value] != state:
            return ("stay", state)
    return None


def _broken_shown(view, table):
    for state, row in enumerate(table):
        for value, result in enumerate(row):
            if result is not None and view[result] != value:
                return ("shown", state, value)
    return None


def _broken_forget(table):
    for state, row in enumerate(table):
        for value, result in enumerate(row):
            if result is None:
                continue
            for other, entry in enumerate(row):
                if table[result][other] != entry:
                    return ("forget", state, value, other)
    return None


def need_sound(view, table):
    """Raise NoView, NoTable or NotSound unless the arguments are a view and a sound table of it."""
    if broken(view, table) is not None:
        raise NotSound()


def permitted(view, table):
    """Return how many writes the table permits."""
    need_table(view, table)
    return len([entry for row in table for entry in row if entry is not None])


def written(table, state, value):
    """Return the state to which a write leads, or raise Refused."""
    result = table[state][value]
    if result is None:
        raise Refused()
    return result
