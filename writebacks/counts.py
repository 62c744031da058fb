"""How many sound tables a view has, the widest of them, and all of them one by one."""

from math import comb, factorial, perm

from writebacks.errors import TooLarge
from writebacks.parts import block_of, table_of
from writebacks.tables import count_values, need_view

MOST_STATES_LISTED = 6


def count_tables(view):
    """Return how many sound tables a view has."""
    need_view(view)
    ways = {0: 1}
    for size in _block_sizes(view):
        ways = _with_block(ways, size)
    return sum(ways.values())


def _block_sizes(view):
    return [view.count(value) for value in range(count_values(view))]


def _with_block(ways, size):
    """Return the numbers of partitions, by their numbers of parts, with the states of one more block."""
    found = {}
    for many, number in ways.items():
        for joining in range(min(many, size) + 1):
            # Some states of the block join as many different parts; each of the others begins a new part.
            added = number * comb(size, joining) * perm(many, joining)
            total = many + size - joining
            found[total] = found.get(total, 0) + added
    return found


def count_full(view):
    """Return how many sound tables of a view permit every write."""
    need_view(view)
    sizes = _block_sizes(view)
    if min(sizes) < max(sizes):
        return 0
    number = 1
    # Each block but the first one is matched with the first one in any order.
    for size in sizes[1:]:
        number = number * factorial(size)
    return number


def widest(view):
    """Return the greatest number of writes that a sound table of a view permits, and such a table."""
    need_view(view)
    blocks = [block_of(view, value) for value in range(count_values(view))]
    # The first states of all blocks make a part, the second ones make the next part, and so on.
    parts = [_states_at(blocks, place) for place in range(max(_block_sizes(view)))]
    number = sum([len(part) ** 2 for part in parts])
    return (number, table_of(view, tuple(sorted(parts))))


def _states_at(blocks, place):
    return tuple(sorted([block[place] for block in blocks if place < len(block)]))


def tables(view):
    """Yield all sound tables of a view with at most six states, in ascending order of their partitions."""
    need_view(view)
    if len(view) > MOST_STATES_LISTED:
        raise TooLarge()
    for parts in _partitions(view, list(range(len(view))), 1):
        yield table_of(view, parts)


def full_tables(view):
    """Yield all sound tables of a view that permit every write, in ascending order of their partitions."""
    need_view(view)
    # Such a table has every value in each of its parts.
    for parts in _partitions(view, list(range(len(view))), count_values(view)):
        yield table_of(view, parts)


def _partitions(view, states, least):
    """Return all ways to put the states into parts of at least so many states each, in ascending order."""
    if len(states) == 0:
        return [()]
    found = []
    for part in _first_parts(view, states, least):
        rest = [state for state in states if state not in part]
        found.extend([(part,) + parts for parts in _partitions(view, rest, least)])
    return found


def _first_parts(view, states, least):
    """Return the parts of at least so many of the states that the first state can be in, in ascending order."""
    found = [(states[0],)]
    for state in states[1:]:
        found = found + [part + (state,) for part in found if not _shows(view, part, view[state])]
    return sorted([part for part in found if len(part) >= least])


def _shows(view, part, value):
    return value in [view[state] for state in part]
