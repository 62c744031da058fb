import random
import unittest
from itertools import permutations, product

from samples import NO_NUMBERS, NO_VIEWS, ODD_THINGS, ORDERLY_VIEWS
from samples import calls_are_clean, first_walk, is_walk, sound_tables, walks
from writebacks.counts import full_tables
from writebacks.errors import NotSound, NoTable, NoView, NoWishes
from writebacks.wishes import are_wishes, full_with, shows_smallest, smallest, ungranted

VIEW = (0, 1, 0)
TABLE = ((0, 1), (0, 1), (2, None))
UNSOUND = ((0, 1), (0, 1), (2, 1))
WISHES = ((0, 1, 1), (2, 1, None))

# Values of every kind that are no wishes for tables of VIEW.
NO_WISHES = ODD_THINGS + [
    ((0, 1, 1),) * 21,
    ((0, 1, 1),) * 3000,
    # lists, and other kinds
    [],
    [(0, 1, 1)],
    ([0, 1, 1],),
    ((0, 1, 1), [2, 1, None]),
    {(0, 1, 1): True},
    ((0, 1, 1), None),
    ((0, 1, 1), "011"),
    ((0, 1, 1), {0: 0, 1: 1, 2: 1}),
    (0, 1, 1),
    (0, 1, None),
    (((0, 1, 1),),),
    # other lengths
    ((),),
    ((0, 1),),
    ((0, 1, 1, 1),),
    ((0, 1, 1), (0, 1)),
    ((0, 1, None, None), (0, 1, 1)),
    # no state, no value, no result
    ((3, 1, 1),),
    ((-1, 1, 1),),
    ((0, 2, 1),),
    ((0, -1, 1),),
    ((0, 1, 3),),
    ((0, 1, -1),),
    ((0, 1, 1), (0, 1, 10**13 - 1)),
    ((10**13 - 1, 1, 1),),
    ((0, 10**13 - 1, None),),
    ((None, 1, 1),),
    ((0, None, 1),),
    (("0", 1, 1),),
    ((0, "1", 1),),
    ((0, 1, "1"),),
    ((0, 1, ""),),
    ((0, 1, "-"),),
    ((0, 1, (1,)),),
    ((0, 1, ()),),
    ((0, 1, []),),
    # bools in the place of numbers
    ((False, 1, 1),),
    ((0, True, 1),),
    ((0, 1, True),),
    ((0, 1, False),),
    ((2, 1, None), (True, 0, None)),
]


def all_wishes(view):
    return list(product(range(len(view)), range(max(view) + 1), [None] + list(range(len(view)))))


def links_of(wishes):
    return lambda s, t: any(r is not None and (s, t) in [(q, r), (r, q)] for q, v, r in wishes)


def grants_all(table, wishes):
    return all(table[s][v] == result for s, v, result in wishes)


def first_smallest(view, wishes):
    """What `smallest` returns, found among all sound tables and all traces."""
    granting = [table for table in sound_tables(view) if grants_all(table, wishes)]
    if granting:
        least = [table for table in granting if all(is_within(table, other) for other in granting)]
        assert len(least) == 1
        return ("table", least[0])
    shown = [i for i, (s, v, result) in enumerate(wishes) if result is not None and view[result] != v]
    if shown:
        return ("shown", shown[0])
    linked = links_of(wishes)
    twice = first_walk(view, linked)
    if twice is not None:
        return ("twice", twice)
    for found in walks(len(view), linked):
        refused = [(i, walk) for i, (s, v, result) in enumerate(wishes) for walk in found
                   if result is None and walk[0] == s and view[walk[-1]] == v]
        if refused:
            return ("refused",) + min(refused)
    raise AssertionError("no sound table and no contradiction")


def is_within(table, other):
    """Whether the other table permits all that this one permits, with the same result."""
    return all(entry is None or other[s][v] == entry for s, row in enumerate(table) for v, entry in enumerate(row))


def is_contradiction(view, wishes, thing):
    """The definition of the document, for tuples of the right form."""
    linked = links_of(wishes)
    if thing[0] == "shown":
        s, v, result = wishes[thing[1]]
        return result is not None and view[result] != v
    if thing[0] == "twice":
        trace = thing[1]
        return is_walk(linked, trace) and trace[0] != trace[-1] and view[trace[0]] == view[trace[-1]]
    s, v, result = wishes[thing[1]]
    trace = thing[2]
    return result is None and is_walk(linked, trace) and trace[0] == s and view[trace[-1]] == v


def some_wishes(number, most_states, most_wishes):
    """Views with wishes, most of which have a result that shows the value; the same ones in each run."""
    chance = random.Random(number)
    while True:
        many = chance.randint(2, most_states)
        numbers = [chance.randrange(chance.randint(1, many)) for _ in range(many)]
        ranks = sorted(set(numbers))
        view = tuple(ranks.index(number) for number in numbers)
        wishes = []
        for _ in range(chance.randint(0, most_wishes)):
            s, r = chance.randrange(many), chance.randrange(many)
            v = view[r] if chance.random() < 0.97 else chance.randrange(max(view) + 1)
            wishes.append((s, v, None if chance.random() < 0.25 else r))
        yield view, tuple(wishes)


class AreWishesTest(unittest.TestCase):
    def test_wishes(self):
        for wishes in [(), ((0, 1, 1),), WISHES, ((0, 1, 1),) * 20, ((2, 0, None),) * 20]:
            self.assertIs(are_wishes(VIEW, wishes), True)

    def test_each_single_wish(self):
        for view in ORDERLY_VIEWS:
            many, values = len(view), max(view) + 1
            for wish in product(range(-1, many + 1), range(-1, values + 1), [None] + list(range(-1, many + 1))):
                s, v, r = wish
                expected = 0 <= s < many and 0 <= v < values and (r is None or 0 <= r < many)
                self.assertIs(are_wishes(view, (wish,)), expected, (view, wish))

    def test_wishes_need_not_be_granted(self):
        # The result shows another value; the same wish twice; wishes that contradict each other.
        for wishes in [((0, 1, 0),), ((0, 1, 1), (0, 1, 1)), ((0, 1, 1), (0, 1, None)), ((0, 0, None),)]:
            self.assertIs(are_wishes(VIEW, wishes), True)

    def test_everything_else(self):
        for thing in NO_WISHES:
            with self.subTest(repr(thing)[:80]):
                self.assertIs(are_wishes(VIEW, thing), False)

    def test_one_bad_number_anywhere(self):
        for place, at, bad in product(range(2), range(3), NO_NUMBERS + [3]):
            if at == 2 and bad is None:
                continue
            wishes = [list(wish) for wish in WISHES]
            wishes[place][at] = bad
            self.assertIs(are_wishes(VIEW, tuple(tuple(wish) for wish in wishes)), False, wishes)

    def test_nine_states(self):
        self.assertIs(are_wishes((0,) * 9, ((8, 0, 8),)), True)
        self.assertIs(are_wishes((0,) * 9, ((8, 1, 8),)), False)
        self.assertIs(are_wishes(tuple(range(9)), ((8, 8, 8),)), True)
        self.assertIs(are_wishes(tuple(range(9)), ((8, 8, 9),)), False)

    def test_no_view(self):
        for thing in NO_VIEWS:
            for wishes in [(), WISHES, None, thing]:
                with self.subTest(repr(thing)[:80]), self.assertRaises(NoView):
                    are_wishes(thing, wishes)

    def test_calls_are_clean(self):
        for thing in NO_WISHES + [(), WISHES]:
            calls_are_clean(self, are_wishes, VIEW, thing)
            calls_are_clean(self, are_wishes, thing, WISHES)


class UngrantedTest(unittest.TestCase):
    def test_all_granted(self):
        self.assertEqual(ungranted(VIEW, TABLE, WISHES), ())
        self.assertEqual(ungranted(VIEW, TABLE, ()), ())
        self.assertEqual(ungranted(VIEW, TABLE, ((0, 1, 1),) * 20), ())
        self.assertEqual(ungranted(VIEW, TABLE, ((0, 0, 0), (1, 0, 0), (2, 0, 2))), ())

    def test_some_granted(self):
        self.assertEqual(ungranted(VIEW, TABLE, ((0, 1, 1), (2, 1, 1), (1, 0, 0), (1, 0, 2))), (1, 3))
        self.assertEqual(ungranted(VIEW, TABLE, ((0, 1, None), (0, 1, 1))), (0,))
        self.assertEqual(ungranted(VIEW, TABLE, ((0, 1, 1),) * 19 + ((1, 1, 0),)), (19,))

    def test_none_granted(self):
        self.assertEqual(ungranted(VIEW, TABLE, ((2, 1, 1), (0, 1, None), (1, 0, 1))), (0, 1, 2))
        self.assertEqual(ungranted(VIEW, TABLE, ((2, 1, 1),) * 20), tuple(range(20)))

    def test_results_that_are_none(self):
        self.assertEqual(ungranted(VIEW, TABLE, ((2, 1, None),)), ())
        self.assertEqual(ungranted(VIEW, TABLE, ((0, 0, None),)), (0,))
        # A write that leads to state 0 is no refused one, and the other way about.
        self.assertEqual(ungranted((0, 1), ((0, 1), (0, 1)), ((1, 0, None), (1, 0, 0))), (0,))
        self.assertEqual(ungranted((0, 1), ((0, None), (None, 1)), ((1, 0, None), (1, 0, 0))), (1,))

    def test_every_wish_for_every_sound_table(self):
        for view in ORDERLY_VIEWS:
            wishes = all_wishes(view)
            for table in sound_tables(view):
                for begin in range(0, len(wishes), 20):
                    some = tuple(wishes[begin:begin + 20])
                    expected = tuple(i for i, (s, v, result) in enumerate(some)
                                     if (table[s][v] is None) != (result is None) or table[s][v] != result)
                    self.assertEqual(repr(ungranted(view, table, some)), repr(expected))

    def test_no_view(self):
        for thing in NO_VIEWS:
            for table, wishes in product([TABLE, UNSOUND, None], [WISHES, None]):
                with self.subTest(repr(thing)[:80]), self.assertRaises(NoView):
                    ungranted(thing, table, wishes)

    def test_no_table(self):
        for thing in ODD_THINGS + [(), TABLE[:2], list(TABLE), ((0, True),) + TABLE[1:], ((0, 3),) + TABLE[1:]]:
            for wishes in [WISHES, None]:
                with self.subTest(repr(thing)[:80]), self.assertRaises(NoTable):
                    ungranted(VIEW, thing, wishes)

    def test_not_sound(self):
        for table in [UNSOUND, ((0, 2), (0, 1), (2, None)), ((2, 1), (0, 1), (2, None))]:
            for wishes in [WISHES, (), None]:
                with self.subTest(table), self.assertRaises(NotSound):
                    ungranted(VIEW, table, wishes)

    def test_no_wishes(self):
        for thing in NO_WISHES:
            with self.subTest(repr(thing)[:80]), self.assertRaises(NoWishes):
                ungranted(VIEW, TABLE, thing)

    def test_calls_are_clean(self):
        for thing in NO_WISHES + [(), WISHES]:
            calls_are_clean(self, ungranted, VIEW, TABLE, thing)
            calls_are_clean(self, ungranted, VIEW, thing, WISHES)
            calls_are_clean(self, ungranted, thing, thing, thing)


class SmallestTest(unittest.TestCase):
    def test_examples_of_the_document(self):
        self.assertEqual(smallest(VIEW, ((0, 1, 1),)), ("table", ((0, 1), (0, 1), (2, None))))
        self.assertEqual(smallest(VIEW, ((0, 1, 1), (2, 1, 1))), ("twice", (0, 1, 2)))

    def test_no_wishes_at_all(self):
        self.assertEqual(smallest(VIEW, ()), ("table", ((0, None), (None, 1), (2, None))))
        self.assertEqual(smallest((0,), ()), ("table", ((0,),)))

    def test_writes_that_follow_from_others(self):
        # From 0 to 1 and from 1 to 2, so from any of them to any other one.
        expected = ("table", ((0, 1, 2, None), (0, 1, 2, None), (0, 1, 2, None), (None, None, None, 3)))
        self.assertEqual(smallest((0, 1, 2, 3), ((0, 1, 1), (1, 2, 2))), expected)
        self.assertEqual(smallest((0, 1, 2, 3), ((2, 1, 1), (1, 0, 0))), expected)

    def test_wishes_that_are_granted_without_a_write(self):
        expected = ("table", ((0, None), (None, 1), (2, None)))
        self.assertEqual(smallest(VIEW, ((0, 0, 0), (1, 0, None), (2, 1, None), (0, 1, None))), expected)

    def test_shown(self):
        self.assertEqual(smallest(VIEW, ((0, 1, 2),)), ("shown", 0))
        self.assertEqual(smallest(VIEW, ((0, 0, 1),)), ("shown", 0))
        self.assertEqual(smallest(VIEW, ((0, 1, 0),)), ("shown", 0))

    def test_shown_with_the_smallest_position(self):
        self.assertEqual(smallest(VIEW, ((0, 1, 1), (2, 0, 1), (0, 1, 2))), ("shown", 1))
        self.assertEqual(smallest(VIEW, ((0, 1, 1),) * 19 + ((0, 1, 0),)), ("shown", 19))

    def test_twice(self):
        self.assertEqual(smallest(VIEW, ((0, 0, 2),)), ("twice", (0, 2)))
        self.assertEqual(smallest(VIEW, ((2, 0, 0),)), ("twice", (0, 2)))

    def test_twice_with_a_shortest_trace(self):
        # 0 - 1 - 2 is longer than 4 - 3.
        view = (0, 1, 0, 2, 2)
        self.assertEqual(smallest(view, ((0, 1, 1), (2, 1, 1), (3, 2, 4))), ("twice", (3, 4)))
        self.assertEqual(smallest(view, ((0, 1, 1), (2, 1, 1))), ("twice", (0, 1, 2)))

    def test_twice_with_the_smallest_trace(self):
        # From 0 to 3 by way of 1 or of 2; 1 and 2 show different values.
        view = (0, 1, 2, 0)
        self.assertEqual(smallest(view, ((0, 2, 2), (3, 2, 2), (3, 1, 1), (0, 1, 1))), ("twice", (0, 1, 3)))
        # From 0 by way of 3, or from 1 by way of 2.
        view = (0, 1, 2, 3, 0, 1)
        wishes = ((1, 2, 2), (5, 2, 2), (0, 3, 3), (4, 3, 3))
        self.assertEqual(smallest(view, wishes), ("twice", (0, 3, 4)))

    def test_refused(self):
        self.assertEqual(smallest(VIEW, ((0, 1, 1), (1, 0, None))), ("refused", 1, (1, 0)))
        self.assertEqual(smallest((0, 1, 2), ((0, 1, 1), (0, 2, None), (1, 2, 2))), ("refused", 1, (0, 1, 2)))

    def test_refusal_of_the_value_that_is_shown(self):
        self.assertEqual(smallest(VIEW, ((1, 1, None),)), ("refused", 0, (1,)))
        self.assertEqual(smallest(VIEW, ((0, 1, 1), (0, 1, None), (2, 0, None))), ("refused", 2, (2,)))

    def test_refused_with_a_shortest_trace_ahead_of_the_smallest_position(self):
        wishes = ((0, 2, None), (0, 1, 1), (1, 2, 2), (2, 1, None), (1, 0, None))
        self.assertEqual(smallest((0, 1, 2), wishes), ("refused", 3, (2, 1)))

    def test_refused_with_the_smallest_position_ahead_of_the_smallest_trace(self):
        self.assertEqual(smallest((0, 1, 2), ((2, 1, None), (0, 1, None), (0, 1, 1), (1, 2, 2))),
                         ("refused", 0, (2, 1)))

    def test_refused_with_the_smallest_trace(self):
        # From 0 to 3 by way of 1 or of 2.
        view = (0, 1, 2, 3)
        wishes = ((0, 2, 2), (2, 3, 3), (0, 1, 1), (1, 3, 3), (0, 3, None))
        self.assertEqual(smallest(view, wishes), ("refused", 4, (0, 1, 3)))

    def test_the_first_kind_comes_first(self):
        shown, twice, refused = (0, 1, 0), (0, 0, 2), (1, 1, None)
        for wishes in permutations((shown, twice, refused)):
            self.assertEqual(smallest(VIEW, wishes), ("shown", wishes.index(shown)))
        for wishes in permutations((twice, refused)):
            self.assertEqual(smallest(VIEW, wishes), ("twice", (0, 2)))
        # The trace of the second kind is longer than that of the third.
        self.assertEqual(smallest(VIEW, (refused, (0, 1, 1), (2, 1, 1))), ("twice", (0, 1, 2)))

    def test_refusals_that_no_table_with_the_other_wishes_permits(self):
        # What is refused leads to another part.
        expected = ("table", ((0, 1, None, None), (0, 1, None, None), (None, None, 2, 3), (None, None, 2, 3)))
        wishes = ((0, 1, 1), (2, 3, 3), (0, 2, None), (1, 3, None), (3, 0, None))
        self.assertEqual(smallest((0, 1, 2, 3), wishes), expected)
        # A part with state 0 and state 3 would show value 1 twice.
        self.assertEqual(smallest((0, 1, 0, 1), ((0, 1, 1), (0, 1, None))), ("refused", 1, (0, 1)))
        self.assertEqual(smallest((0, 1, 0, 1), ((0, 1, 1), (2, 1, None))),
                         ("table", ((0, 1), (0, 1), (2, None), (None, 3))))

    def test_nine_states(self):
        view = tuple(range(9))
        wishes = tuple((s, s + 1, s + 1) for s in range(8))
        self.assertEqual(smallest(view, wishes), ("table", (view,) * 9))
        self.assertEqual(smallest(view, wishes + ((8, 0, None),)), ("refused", 8, tuple(range(8, -1, -1))))
        view = tuple(range(8)) + (0,)
        wishes = tuple((s, view[s + 1], s + 1) for s in range(8))
        self.assertEqual(smallest(view, wishes), ("twice", tuple(range(9))))

    def test_all_wishes_for_small_views(self):
        for view in [(0,), (0, 0), (0, 1), (0, 0, 0), (0, 1, 0), (1, 0, 0), (0, 1, 2), (2, 0, 1)]:
            for many in range(3):
                for wishes in product(all_wishes(view), repeat=many):
                    self.assertEqual(repr(smallest(view, wishes)), repr(first_smallest(view, wishes)))

    def test_many_wishes(self):
        cases = some_wishes(1, 6, 7)
        kinds = {}
        for _ in range(4000):
            view, wishes = next(cases)
            expected = first_smallest(view, wishes)
            kinds[expected[0]] = kinds.get(expected[0], 0) + 1
            self.assertEqual(repr(smallest(view, wishes)), repr(expected), (view, wishes))
        self.assertEqual(sorted(kind for kind in kinds if kinds[kind] > 100), ["refused", "shown", "table", "twice"])

    def test_no_view(self):
        for thing in NO_VIEWS:
            for wishes in [(), WISHES, None, thing]:
                with self.subTest(repr(thing)[:80]), self.assertRaises(NoView):
                    smallest(thing, wishes)

    def test_no_wishes(self):
        for thing in NO_WISHES:
            with self.subTest(repr(thing)[:80]), self.assertRaises(NoWishes):
                smallest(VIEW, thing)

    def test_calls_are_clean(self):
        for thing in NO_WISHES + [(), WISHES, ((0, 1, 1), (2, 1, 1))]:
            calls_are_clean(self, smallest, VIEW, thing)
            calls_are_clean(self, smallest, thing, WISHES)


class ShowsSmallestTest(unittest.TestCase):
    def check(self, wishes, right, wrong):
        for thing in right:
            self.assertIs(shows_smallest(VIEW, wishes, thing), True, thing)
        for thing in wrong:
            self.assertIs(shows_smallest(VIEW, wishes, thing), False, thing)

    def test_the_table(self):
        self.check(((0, 1, 1),), [("table", TABLE)], [
            # other sound tables, and one that is not sound
            ("table", ((0, None), (None, 1), (2, None))),
            ("table", ((0, None), (2, 1), (2, 1))),
            ("table", UNSOUND),
            # bools in the place of numbers
            ("table", ((False, 1), (0, 1), (2, None))),
            ("table", ((0, True), (0, 1), (2, None))),
            # lists, and other kinds and lengths
            ["table", TABLE],
            ("table", list(TABLE)),
            ("table", ([0, 1], [0, 1], [2, None])),
            ("table", ((0, 1), (0, 1), [2, None])),
            ("table", TABLE, None),
            ("table", VIEW, TABLE),
            ("table",),
            ("table", None),
            (None, TABLE),
            ("Table", TABLE),
            ("", TABLE),
            (TABLE, "table"),
            TABLE,
            {"table": TABLE},
            "table",
            # no contradictions
            ("twice", (0, 1)),
            ("twice", (0, 1, 0)),
            ("twice", (0, 1, 2)),
            ("shown", 0),
            ("refused", 0, (0, 1)),
        ])

    def test_a_sound_table_that_is_not_the_smallest_one(self):
        larger = ((0, 1), (0, 1), (2, None))
        self.check((), [("table", ((0, None), (None, 1), (2, None)))], [("table", larger)])

    def test_shown(self):
        wishes = ((0, 1, 1), (0, 1, 2), (2, 0, 1), (1, 0, None))
        self.check(wishes, [("shown", 1), ("shown", 2), ("twice", (0, 2)), ("refused", 3, (1, 0))], [
            ("shown", 0), ("shown", 3), ("shown", 4), ("shown", -1), ("shown", -2), ("shown", 10**13 - 1),
            ("shown", True), ("shown", None), ("shown", "1"), ("shown", (1,)), ("shown", [1]), ("shown", {}),
            ("shown",), ("shown", 1, 1), ("shown", 1, (0, 1)), ["shown", 1], ("Shown", 1), (1, "shown"), {"shown": 1},
            ("twice", 1), ("refused", 1), ("table", 1), ("table", TABLE),
        ])

    def test_shown_by_the_first_wish(self):
        self.check(((0, 1, 2),), [("shown", 0)], [("shown", False), ("shown", 1), ("shown", None)])

    def test_twice(self):
        right = [("twice", (0, 1, 2)), ("twice", (2, 1, 0)), ("twice", (0, 1, 0, 1, 2)), ("twice", (2, 1, 0, 1, 0)),
                 ("twice", (0, 1) * 1000 + (2,))]
        self.check(((0, 1, 1), (2, 1, 1)), right, [
            # steps that nothing links, and a step from a state to itself
            ("twice", (0, 2)),
            ("twice", (2, 0)),
            ("twice", (0, 1, 0, 2)),
            ("twice", (0, 0, 1, 2)),
            ("twice", (0, 1, 1, 2)),
            # ends that are the same or show different values
            ("twice", (0,)),
            ("twice", (1,)),
            ("twice", (0, 1)),
            ("twice", (0, 1, 0)),
            ("twice", (0, 1) * 1000),
            # bools in the place of numbers
            ("twice", (False, 1, 2)),
            ("twice", (0, True, 2)),
            ("twice", (2, True, 0)),
            # no states
            ("twice", (0, 1, 3)),
            ("twice", (0, 1, -1)),
            ("twice", (0, 1, None)),
            ("twice", (0, 1, "2")),
            ("twice", (0, (1,), 2)),
            # lists, and other kinds and lengths
            ("twice", [0, 1, 2]),
            ["twice", (0, 1, 2)],
            ["twice", [0, 1, 2]],
            ("twice", ()),
            ("twice", None),
            ("twice", "012"),
            ("twice", 0),
            ("twice", {0: 0, 1: 1, 2: 2}),
            ("twice", 0, 1, 2),
            ("twice", (0, 1, 2), None),
            ("twice", 0, (0, 1, 2)),
            ("twice",),
            ("refused", (0, 1, 2)),
            ("shown", (0, 1, 2)),
            ("table", (0, 1, 2)),
            ("table", TABLE),
            ((0, 1, 2), "twice"),
            (0, 1, 2),
        ])

    def test_refused(self):
        right = [("refused", 1, (1, 0)), ("refused", 1, (1, 0, 1, 0)), ("refused", 2, (0, 1)), ("refused", 3, (2,)),
                 ("refused", 2, (0, 1) * 1000)]
        self.check(((0, 1, 1), (1, 0, None), (0, 1, None), (2, 0, None), (2, 1, None)), right, [
            # a wish with a state as its result
            ("refused", 0, (0, 1)),
            # a trace from another state, or to a state that shows another value
            ("refused", 1, (0, 1)),
            ("refused", 1, (0,)),
            ("refused", 1, (1,)),
            ("refused", 1, (1, 0, 1)),
            ("refused", 2, (1, 0)),
            # steps that nothing links
            ("refused", 1, (1, 2)),
            ("refused", 4, (2, 1)),
            ("refused", 3, (2, 2)),
            ("refused", 1, (1, 1, 0)),
            # no position, no trace
            ("refused", 5, (2,)),
            ("refused", -1, (2, 1)),
            ("refused", -2, (2,)),
            ("refused", True, (1, 0)),
            ("refused", "1", (1, 0)),
            ("refused", None, (1, 0)),
            ("refused", (1,), (1, 0)),
            ("refused", 1, (True, 0)),
            ("refused", 1, (1, False)),
            ("refused", 1, [1, 0]),
            ("refused", 1, ()),
            ("refused", 1, None),
            ("refused", 1, 0),
            ("refused", 1, (1, 3)),
            ("refused", 1, (1, None)),
            # other kinds and lengths
            ["refused", 1, (1, 0)],
            ("refused", 1, (1, 0), None),
            ("refused", (1, 0)),
            ("refused", 1),
            ("refused",),
            ("twice", 1, (1, 0)),
            ("shown", 1, (1, 0)),
            (None, 1, (1, 0)),
            ("table", TABLE),
        ])

    def test_no_wishes_at_all(self):
        right = [("table", ((0, None), (None, 1), (2, None)))]
        self.check((), right, [("shown", 0), ("twice", (0, 2)), ("refused", 0, (0,)), ("table", TABLE), ()])

    def test_other_kinds(self):
        for wishes in [(), WISHES, ((0, 1, 1), (2, 1, 1)), ((0, 1, 2), (1, 1, None))]:
            self.check(wishes, [], ODD_THINGS + [(), ("table",), ("shown", "twice", "refused")])

    def test_every_answer_for_small_views(self):
        cases = some_wishes(2, 4, 4)
        for _ in range(150):
            view, wishes = next(cases)
            traces = [trace for many in range(1, 5) for trace in product(range(len(view)), repeat=many)]
            answers = [("shown", i) for i in range(len(wishes))] + [("twice", trace) for trace in traces]
            answers += [("refused", i, trace) for i in range(len(wishes)) for trace in traces]
            for answer in answers:
                expected = is_contradiction(view, wishes, answer)
                self.assertIs(shows_smallest(view, wishes, answer), expected, (view, wishes, answer))
            for table in sound_tables(view):
                expected = first_smallest(view, wishes) == ("table", table)
                self.assertIs(shows_smallest(view, wishes, ("table", table)), expected)

    def test_what_smallest_returns(self):
        cases = some_wishes(3, 9, 12)
        for _ in range(500):
            view, wishes = next(cases)
            self.assertIs(shows_smallest(view, wishes, smallest(view, wishes)), True, (view, wishes))

    def test_no_view(self):
        for thing in NO_VIEWS:
            for wishes, answer in product([(), WISHES, None], [("table", TABLE), None]):
                with self.subTest(repr(thing)[:80]), self.assertRaises(NoView):
                    shows_smallest(thing, wishes, answer)

    def test_no_wishes(self):
        for thing in NO_WISHES:
            for answer in [("table", TABLE), None]:
                with self.subTest(repr(thing)[:80]), self.assertRaises(NoWishes):
                    shows_smallest(VIEW, thing, answer)

    def test_calls_are_clean(self):
        for thing in NO_WISHES + [("table", TABLE), ("twice", [0, 1, 2]), ["twice", (0, 1, 2)]]:
            calls_are_clean(self, shows_smallest, VIEW, WISHES, thing)
            calls_are_clean(self, shows_smallest, VIEW, thing, thing)
            calls_are_clean(self, shows_smallest, thing, WISHES, thing)


class FullWithTest(unittest.TestCase):
    def test_single_cases(self):
        view = (0, 1, 1, 0)
        first, second = ((0, 1), (0, 1), (3, 2), (3, 2)), ((0, 2), (3, 1), (0, 2), (3, 1))
        self.assertEqual(full_with(view, ()), first)
        self.assertEqual(full_with(view, ((0, 1, 1),)), first)
        self.assertEqual(full_with(view, ((0, 1, 2),)), second)
        self.assertEqual(full_with(view, ((1, 0, 3), (0, 0, 0))), second)

    def test_none(self):
        view = (0, 1, 1, 0)
        # No table grants both wishes; none that permits every write grants the refusal; none permits every write.
        self.assertIsNone(full_with(view, ((0, 1, 1), (3, 1, 1))))
        self.assertIsNone(full_with(view, ((0, 1, None),)))
        self.assertIsNone(full_with(VIEW, ()))
        self.assertIsNone(full_with(VIEW, ((0, 1, 1),)))

    def test_the_first_of_all_full_tables_that_grants_them(self):
        views = [(0,), (0, 0), (1, 0), (0, 1, 1, 0), (0, 0, 1, 1), (0, 1, 2, 2, 1, 0), (1, 1, 1, 0, 0, 0), (0, 1, 0)]
        for view in views:
            everything = list(full_tables(view))
            for many in range(3):
                for wishes in product(all_wishes(view), repeat=many):
                    granting = [table for table in everything if grants_all(table, wishes)]
                    self.assertEqual(full_with(view, wishes), granting[0] if granting else None, (view, wishes))

    def test_eight_and_nine_states(self):
        for view in [(0, 1, 2, 0, 1, 2, 0, 1, 2), (0, 0, 0, 0, 1, 1, 1, 1), tuple(range(9)), (0,) * 9]:
            everything = list(full_tables(view))
            for last in everything:
                wishes = tuple((s, v, last[s][v]) for s in range(len(view)) for v in range(max(view) + 1))
                granting = [table for table in everything if grants_all(table, wishes[:20])]
                self.assertEqual(full_with(view, wishes[:20]), granting[0])

    def test_no_view(self):
        for thing in NO_VIEWS:
            for wishes in [(), WISHES, None, thing]:
                with self.subTest(repr(thing)[:80]), self.assertRaises(NoView):
                    full_with(thing, wishes)

    def test_no_wishes(self):
        for thing in NO_WISHES:
            for view in [VIEW, (0, 1, 1)]:
                with self.subTest(repr(thing)[:80]), self.assertRaises(NoWishes):
                    full_with(view, thing)

    def test_calls_are_clean(self):
        for thing in NO_WISHES + [(), WISHES]:
            calls_are_clean(self, full_with, VIEW, thing)
            calls_are_clean(self, full_with, thing, WISHES)


if __name__ == "__main__":
    unittest.main()
