"""Values and plain reference code that the tests share."""

import copy
from functools import lru_cache
from itertools import product


def nested(depth):
    thing = 0
    for _ in range(depth):
        thing = (thing,)
    return thing


# Values of every kind; none of them is a view, a table or a partition of any view.
ODD_THINGS = [
    None,
    True,
    False,
    0,
    1,
    -1,
    10**13 - 1,
    "",
    "view 0 1 0",
    "(0, 1)\n" * 60,
    [],
    [0],
    [0, 1],
    [[0]],
    [(0,)],
    {},
    {0: 0},
    {0: (0,)},
    {"a": [1, {"b": None}]},
    {(0,): [0]},
    (None,),
    (True,),
    (False,),
    ("0",),
    ("", ""),
    ([0],),
    ({},),
    ({0: 0},),
    (0, None),
    (0, "1"),
    (0, [1]),
    (0, {}),
    (0, (1,)),
    ((), 0),
    ((),),
    ((0,), 0),
    ((0,), None),
    ((0,), [0]),
    ([0], (0,)),
    ((0,), "0"),
    (("0",),),
    (([0],),),
    (({},),),
    ((False,),),
    ((True, False),),
    ((-1,),),
    ((10**13 - 1,),),
    nested(3),
    nested(8),
    [0] * 3000,
    (0, 1) * 1500,
    ((0,),) * 1500,
]

# Values of every kind that are no view.
NO_VIEWS = ODD_THINGS + [
    (), (1,), (-1,), (0, 2), (1, 2), (0, 0, 2), (1, 1), (-1, 0), (0, -1, 1), (0, 10**13 - 1), (10**13 - 1,),
    (0, True), (False, 1), (False, 1, 0), (True, False), (1, 0, True), (0, 1, 1.0), (0,) * 10, tuple(range(10)),
    [0, 1, 0], ((0, 1, 0),), {0: 0, 1: 1},
]

# Values of every kind that are no state and no value of any view.
NO_NUMBERS = [
    None, True, False, -1, 9, 10, 10**13 - 1, 1 - 10**13, "", "0", "1", [], [0], [1], (), (0,), (1,), (None,),
    {}, {0: 0}, {1: 1}, nested(8), [0] * 3000,
]


# Views of all shapes with at most four states, and some larger ones.
SMALL_VIEWS = [
    view
    for many in range(1, 5)
    for view in product(range(many), repeat=many)
    if set(view) == set(range(max(view) + 1))
]

# Of these, the views in which each value is shown for the first time behind all smaller ones.
ORDERLY_VIEWS = [
    view for view in SMALL_VIEWS if all(number <= max((-1,) + view[:s]) + 1 for s, number in enumerate(view))
]

LARGER_VIEWS = [
    (0, 1, 0, 1, 0),
    (2, 1, 0, 2, 1),
    (4, 3, 2, 1, 0),
    (1, 1, 1, 1, 0),
    (0, 0, 0, 0, 0),
    (0, 1, 2, 0, 1, 2),
]


def groupings(items):
    """All ways to put the items into groups, as lists of tuples."""
    if not items:
        return [[]]
    first, rest = items[0], items[1:]
    found = []
    for groups in groupings(rest):
        found.append([(first,)] + groups)
        for at, group in enumerate(groups):
            found.append(groups[:at] + [(first,) + group] + groups[at + 1:])
    return found


def all_groupings(view):
    """All ways to put the states of the view into groups, written as partitions are."""
    return [tuple(sorted(tuple(sorted(group)) for group in groups))
            for groups in groupings(list(range(len(view))))]


def lets_apart(view, groups):
    """Whether no two states of a group show the same value."""
    return all(view[s] != view[t] for group in groups for s in group for t in group if s != t)


def partitions(view):
    return [groups for groups in all_groupings(view) if lets_apart(view, groups)]


def written_out(view, parts):
    """The table of a partition, entry by entry as the document defines it."""
    table = []
    for s in range(len(view)):
        row = []
        for v in range(max(view) + 1):
            found = [t for part in parts if s in part for t in part if view[t] == v]
            row.append(found[0] if found else None)
        table.append(tuple(row))
    return tuple(table)


@lru_cache(maxsize=None)
def sound_tables(view):
    """All sound tables of a view, in ascending order of their partitions."""
    return [written_out(view, parts) for parts in sorted(partitions(view))]


def every_table(view):
    """All tables of a view, sound or not."""
    entries = [None] + list(range(len(view)))
    rows = list(product(entries, repeat=max(view) + 1))
    return product(rows, repeat=len(view))


def first_fault(view, table):
    """What `broken` returns, from lists of all places at which a rule is broken."""
    states, values = range(len(view)), range(max(view) + 1)
    stay = [("stay", s) for s in states if table[s][view[s]] != s]
    shown = [("shown", s, v) for s in states for v in values
             if table[s][v] is not None and view[table[s][v]] != v]
    forget = [("forget", s, v, w) for s in states for v in values for w in values
              if table[s][v] is not None and table[table[s][v]][w] != table[s][w]]
    for faults in (stay, shown, forget):
        if faults:
            return min(faults)
    return None


def is_walk(linked, thing):
    """Whether every two neighbours in a tuple are different and linked."""
    return all(s != t and linked(s, t) for s, t in zip(thing, thing[1:]))


def walks(many, linked):
    """For each length from 1 to the number of states, the list of all traces of that length, ascending."""
    found = [(s,) for s in range(many)]
    for _ in range(many):
        yield found
        found = [walk + (t,) for walk in found for t in range(many) if is_walk(linked, (walk[-1], t))]


def first_walk(view, linked):
    """A shortest trace whose ends are different and show the same, of these the smallest, or None."""
    for found in walks(len(view), linked):
        for walk in found:
            if walk[0] != walk[-1] and view[walk[0]] == view[walk[-1]]:
                return walk
    return None


def outcome(function, args):
    """What a call does, as a text that tells True from 1: its result or its exception."""
    try:
        return repr(function(*args))
    except ValueError as error:
        return "raises " + type(error).__name__


def calls_are_clean(case, function, *args):
    """Check that two calls do the same and leave the arguments as they are."""
    before = copy.deepcopy(args)
    first = outcome(function, args)
    case.assertEqual(outcome(function, args), first)
    case.assertEqual(repr(args), repr(before))
    case.assertEqual(outcome(function, before), first)


class Lookalike:
    """What has the names of a view object, and is none."""

    shown = (0, 1, 0)
    table = ((0, 1), (0, 1), (2, None))


# Things of every kind that are no view object.
NO_VIEW_OBJECTS = NO_VIEWS + [
    (0,), (0, 1), (0, 1, 0), ((0, 1), (0, 1), (2, None)), ((0, 1, 0), ((0, 1), (0, 1), (2, None))),
    "view 0\n0: 0\n", "View(0 1 0)", Lookalike(), Lookalike,
]


def unfit_views(held, *others):
    """Tuples that are not one to four view objects with one number of states; the others have not that of the first."""
    found = [(), (held,) * 5, (held,) * 6]
    for other in others:
        found += [(held, other), (other, held), (held, held, held, other)]
    for thing in NO_VIEW_OBJECTS:
        found += [(thing,), (held, thing), (thing, held), (held, held, thing), (thing,) * 4]
    return found
