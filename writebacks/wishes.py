"""Wishes: entries that a table is to have; the smallest sound table with them, or a reason why there is none."""

from writebacks.checks import is_below, is_same
from writebacks.counts import full_tables
from writebacks.errors import NoWishes
from writebacks.parts import table_of
from writebacks.tables import count_values, need_sound, need_view
from writebacks.traces import is_trace, is_twice, linked_parts, near_states, shortest_traces, shortest_twice

MOST_WISHES = 20


def are_wishes(view, thing):
    """Tell whether any value is a tuple of wishes for tables of the view."""
    need_view(view)
    if not isinstance(thing, tuple) or len(thing) > MOST_WISHES:
        return False
    return all([_is_wish(view, wish) for wish in thing])


def _is_wish(view, thing):
    if not isinstance(thing, tuple) or len(thing) != 3:
        return False
    state, value, result = thing
    if not is_below(state, len(view)) or not is_below(value, count_values(view)):
        return False
    return result is None or is_below(result, len(view))


def need_wishes(view, wishes):
    """Raise NoView or NoWishes unless the arguments are a view and wishes for tables of it."""
    if not are_wishes(view, wishes):
        raise NoWishes()


def ungranted(view, table, wishes):
    """Return the sorted tuple of the positions of the wishes that a sound table does not grant."""
    need_sound(view, table)
    need_wishes(view, wishes)
    return _ungranted(table, wishes)


def _ungranted(table, wishes):
    return tuple([at for at, (state, value, result) in enumerate(wishes) if table[state][value] != result])


def smallest(view, wishes):
    """Return ("table", the smallest sound table that grants all wishes), or the first contradiction."""
    need_wishes(view, wishes)
    near = _near_by_wishes(view, wishes)
    contradiction = _first_shown(view, wishes) or _first_twice(view, near) or _first_refused(view, wishes, near)
    return contradiction or ("table", table_of(view, linked_parts(near)))


def _near_by_wishes(view, wishes):
    links = [(state, result) for state, value, result in wishes if result is not None]
    return near_states(len(view), links)


def _first_shown(view, wishes):
    for at, wish in enumerate(wishes):
        if _shows_another_value(view, wish):
            return ("shown", at)
    return None


def _shows_another_value(view, wish):
    state, value, result = wish
    return result is not None and view[result] != value


def _first_twice(view, near):
    trace = shortest_twice(view, near)
    return None if trace is None else ("twice", trace)


def _first_refused(view, wishes, near):
    found = []
    for at, wish in enumerate(wishes):
        for trace in shortest_traces(near, wish[0]).values():
            if _leads_to_refused(view, wish, trace):
                found.append((len(trace), at, trace))
    if len(found) == 0:
        return None
    length, position, shortest = min(found)
    return ("refused", position, shortest)


def _leads_to_refused(view, wish, trace):
    """Tell whether the trace leads from the state of the wish to a state that shows what the wish refuses."""
    state, value, result = wish
    return result is None and trace[0] == state and view[trace[-1]] == value


def shows_smallest(view, wishes, thing):
    """Tell whether any value is ("table", the smallest table with the wishes), or any contradiction."""
    return is_same(thing, smallest(view, wishes)) or _is_contradiction(view, wishes, thing)


def _is_contradiction(view, wishes, thing):
    if not isinstance(thing, tuple):
        return False
    near = _near_by_wishes(view, wishes)
    if len(thing) == 2 and thing[0] == "shown":
        return is_below(thing[1], len(wishes)) and _shows_another_value(view, wishes[thing[1]])
    if len(thing) == 2 and thing[0] == "twice":
        return is_trace(near, thing[1]) and is_twice(view, thing[1])
    if len(thing) == 3 and thing[0] == "refused" and is_below(thing[1], len(wishes)):
        return is_trace(near, thing[2]) and _leads_to_refused(view, wishes[thing[1]], thing[2])
    return False


def full_with(view, wishes):
    """Return the first table of `full_tables` that grants all wishes, or None."""
    need_wishes(view, wishes)
    for table in full_tables(view):
        if len(_ungranted(table, wishes)) == 0:
            return table
    return None
