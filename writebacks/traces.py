"""Traces: ways from state to state in which each state is linked with the next one."""

from writebacks.checks import is_below


def near_states(many, links):
    """Return for each of so many states the list of the other states that it is linked with, ascending."""
    both_ways = links + [(other, state) for state, other in links]
    return [[other for other in range(many) if other != state and (state, other) in both_ways]
            for state in range(many)]


def is_trace(near, thing):
    """Tell whether any value is a trace, of one state or more."""
    if not isinstance(thing, tuple) or len(thing) == 0:
        return False
    if not all([is_below(state, len(near)) for state in thing]):
        return False
    return all([other in near[state] for state, other in zip(thing, thing[1:])])


def shortest_traces(near, start):
    """Return a dict with a shortest trace to each state that traces lead to, of several the smallest."""
    found = {start: (start,)}
    latest = [start]
    while len(latest) > 0:
        # The latest states stand in ascending order of their traces, so the first trace to reach a new state
        # is the smallest one, and the new states stand in this order, too.
        reached = []
        for state in latest:
            for other in near[state]:
                if other not in found:
                    found[other] = found[state] + (other,)
                    reached.append(other)
        latest = reached
    return found


def linked_parts(near):
    """Return the sorted tuple of the smallest sets of states that no trace leaves, each a sorted tuple."""
    return tuple(sorted({tuple(sorted(shortest_traces(near, state))) for state in range(len(near))}))


def is_twice(view, trace):
    """Tell whether the first and the last state of a trace are different and show the same value."""
    return trace[0] != trace[-1] and view[trace[0]] == view[trace[-1]]


def shortest_twice(view, near):
    """Return a shortest trace whose ends are different and show the same, of these the smallest, or None."""
    found = []
    for start in range(len(view)):
        found.extend([trace for trace in shortest_traces(near, start).values() if is_twice(view, trace)])
    return min(found, key=_rank, default=None)


def _rank(trace):
    return (len(trace), trace)
