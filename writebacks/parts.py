"""Partitions of the states of a view, the other way to write a sound table."""

from writebacks.checks import is_below
from writebacks.errors import Alike, NoParts, NoView
from writebacks.tables import count_values, need_sound, need_view


def is_parts(view, thing):
    """Tell whether any value is a partition of the view."""
    need_view(view)
    if not isinstance(thing, tuple) or not all([_is_part(view, part) for part in thing]):
        return False
    states = [state for part in thing for state in part]
    return list(thing) == sorted(thing) and sorted(states) == list(range(len(view)))


def _is_part(view, thing):
    if not isinstance(thing, tuple) or len(thing) == 0:
        return False
    if not all([is_below(state, len(view)) for state in thing]):
        return False
    # States that show different values are different, so no state can stand in the part twice.
    return list(thing) == sorted(thing) and len({view[state] for state in thing}) == len(thing)


def parts_of(view, table):
    """Return the partition of a sound table."""
    need_sound(view, table)
    # A sound table leads from a state to exactly the states of its part.
    return tuple(sorted({_results(row) for row in table}))


def _results(row):
    return tuple(sorted([entry for entry in row if entry is not None]))


def table_of(view, parts):
    """Return the table of a partition."""
    if not is_parts(view, parts):
        raise NoParts()
    part_at = {state: part for part in parts for state in part}
    return tuple([_row_of(view, part_at[state]) for state in range(len(view))])


def _row_of(view, part):
    state_showing = {view[state]: state for state in part}
    return tuple([state_showing.get(value) for value in range(count_values(view))])


def kept_by(view, table):
    """Return the view that shows at each state the position of its part."""
    parts = parts_of(view, table)
    position_at = {state: position for position, part in enumerate(parts) for state in part}
    return tuple([position_at[state] for state in range(len(view))])


def table_keeping(view, kept):
    """Return the sound table whose parts are the blocks of another view of the same states."""
    need_view(view)
    need_view(kept)
    if len(kept) != len(view):
        raise NoView()
    if len(set(list(zip(view, kept)))) < len(view):
        raise Alike()
    # The blocks stand in the order of their values, which need not be that of their states.
    blocks = [block_of(kept, value) for value in range(count_values(kept))]
    return table_of(view, tuple(sorted(blocks)))


def block_of(view, value):
    """Return the states that show a value, in ascending order."""
    return tuple([state for state, shown in enumerate(view) if shown == value])
