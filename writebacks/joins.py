"""Views of views, and several views together: whether they are independent, and how to join them."""

from writebacks.checks import is_same
from writebacks.errors import NoPairs, NoStep, NotIndependent, NoView
from writebacks.parts import table_of
from writebacks.tables import broken, count_values, is_table, is_view, need_sound, need_state, need_view
from writebacks.traces import is_trace, is_twice, linked_parts, near_states, shortest_twice

MOST_PAIRS = 4


def chain(inner, inner_table, outer, outer_table):
    """Return the view that the outer view makes of the inner one, and its table."""
    need_sound(inner, inner_table)
    need_view(outer)
    if len(outer) != count_values(inner):
        raise NoView()
    need_sound(outer, outer_table)
    view = tuple([outer[value] for value in inner])
    rows = [_chained_row(row, outer_table[value]) for row, value in zip(inner_table, inner)]
    return (view, tuple(rows))


def _chained_row(inner_row, outer_row):
    return tuple([None if value is None else inner_row[value] for value in outer_row])


def _is_pair(thing):
    if not isinstance(thing, tuple) or len(thing) != 2:
        return False
    view, table = thing
    return is_view(view) and is_table(view, table) and broken(view, table) is None


def _need_pairs(pairs):
    """Raise NoPairs unless the members of a tuple are pairs that fit."""
    if not 1 <= len(pairs) <= MOST_PAIRS or not all([_is_pair(pair) for pair in pairs]):
        raise NoPairs()
    if len({len(view) for view, table in pairs}) > 1:
        raise NoPairs()


def joined(*pairs):
    """Return ("table", joined view, joined table), or ("clash", trace) if the pairs cannot be joined."""
    _need_pairs(pairs)
    view = _joined_view([shown for shown, table in pairs])
    near = near_by_tables(pairs)
    trace = shortest_twice(view, near)
    if trace is not None:
        return ("clash", trace)
    return ("table", view, table_of(view, linked_parts(near)))


def _joined_view(views):
    different = different_tuples(views)
    return tuple([different.index(values) for values in _tuples_shown(views)])


def different_tuples(views):
    """Return the sorted tuple of all different tuples of the values that views show at a state."""
    return tuple(sorted(set(_tuples_shown(views))))


def _tuples_shown(views):
    return [tuple([view[state] for view in views]) for state in range(len(views[0]))]


def near_by_tables(pairs):
    """Return for each state the list of the other states that it is in one part with in some table of the pairs."""
    # A sound table leads from a state to exactly the states of its part.
    links = []
    for view, table in pairs:
        for state, row in enumerate(table):
            links.extend([(state, entry) for entry in row if entry is not None])
    return near_states(len(pairs[0][0]), links)


def shows_joined(*pairs, answer):
    """Tell whether any value is the ("table", ..) that `joined` returns, or ("clash", trace) with any clash."""
    return is_same(answer, joined(*pairs)) or _is_clash(pairs, answer)


def _is_clash(pairs, thing):
    if not isinstance(thing, tuple) or len(thing) != 2 or thing[0] != "clash":
        return False
    view = _joined_view([shown for shown, table in pairs])
    return is_trace(near_by_tables(pairs), thing[1]) and is_twice(view, thing[1])


def dependence(one, other):
    """Return None for independent pairs, otherwise the first place at which one depends on the other."""
    _need_pairs((one, other))
    return _first_move(one, other, 0) or _first_move(other, one, 1) or _first_order(one, other)


def _first_move(writing, watching, position):
    """Return the smallest write of a pair that changes what the view of the other one shows, or None."""
    shown = watching[0]
    for state, row in enumerate(writing[1]):
        for value, result in enumerate(row):
            if result is not None and shown[result] != shown[state]:
                return ("moves", position, state, value)
    return None


def _first_order(one, other):
    for state in range(len(one[0])):
        for first in range(count_values(one[0])):
            for second in range(count_values(other[0])):
                ahead = _write_both(one[1], first, other[1], second, state)
                if ahead != _write_both(other[1], second, one[1], first, state):
                    return ("order", state, first, second)
    return None


def _write_both(table, value, later_table, later_value, state):
    """Return the state to which two writes lead, one after the other, or None if one of them is refused."""
    result = table[state][value]
    return None if result is None else later_table[result][later_value]


def merged(one, other, base, *, mine, its):
    """Return the state to which a write by each of two independent pairs, both made at base, lead together."""
    if dependence(one, other) is not None:
        raise NotIndependent()
    for state in (base, mine, its):
        need_state(one[0], state)
    if mine not in one[1][base] or its not in other[1][base]:
        raise NoStep()
    # This write is not refused: writing the old value at mine leads back to base, where the second table permits
    # the write, and the two may change places.
    return other[1][mine][other[0][its]]
