import inspect
import random
import unittest
from itertools import product

from samples import LARGER_VIEWS, NO_NUMBERS, NO_VIEWS, ODD_THINGS, ORDERLY_VIEWS, SMALL_VIEWS
from samples import all_groupings, calls_are_clean, first_walk, is_walk, lets_apart, sound_tables, written_out
from writebacks.errors import NoPairs, NoState, NoStep, NotIndependent, NotSound, NoTable, NoView
from writebacks.joins import chain, dependence, joined, merged, shows_joined
from writebacks.tables import broken, is_table, is_view

VIEW = (0, 1, 0)
TABLE = ((0, 1), (0, 1), (2, None))
UNSOUND = ((0, 1), (0, 1), (2, 1))
PAIR = (VIEW, TABLE)

# The two views of the document's example; they are independent.
ONE = ((0, 0, 1, 1), ((0, 2), (1, 3), (0, 2), (1, 3)))
OTHER = ((0, 1, 0, 1), ((0, 1), (0, 1), (2, 3), (2, 3)))

# Pairs that move from 0 to 1, and from 1 to 2.
LOW = ((0, 1, 1), ((0, 1), (0, 1), (None, 2)))
HIGH = ((0, 0, 1), ((0, None), (1, 2), (1, 2)))

NO_TABLES = ODD_THINGS + [(), TABLE[:2], list(TABLE), ((0, True),) + TABLE[1:], ((0, 3),) + TABLE[1:], ((0,),) * 3]
NOT_SOUND = [UNSOUND, ((0, 2), (0, 1), (2, None)), ((2, 1), (0, 1), (2, None)), ((None, None),) * 3]

# Values of every kind that are no pair of a view of three states.
NO_PAIRS = ODD_THINGS + [
    (), VIEW, TABLE, (VIEW,), (TABLE,), (VIEW, TABLE, None), (VIEW, TABLE, TABLE), (TABLE, VIEW), (PAIR,), (PAIR, PAIR),
    [VIEW, TABLE], (list(VIEW), TABLE), (VIEW, list(TABLE)), (VIEW, ([0, 1], [0, 1], [2, None])), {VIEW: TABLE},
    (VIEW, None), (None, TABLE), (VIEW, VIEW), ((0, True, 0), TABLE), ((0, 2, 0), TABLE), ((0, 1), TABLE), ((), ()),
    (VIEW, ((0, True), (0, 1), (2, None))), (VIEW, ((0, 3), (0, 1), (2, None))), (VIEW, TABLE[:2]),
    ((0,) * 10, ((0,),) * 10),
] + [(VIEW, table) for table in NOT_SOUND]


def pairs_of(many):
    """All pairs of so many states, with one view of each shape."""
    return [(view, table) for view in ORDERLY_VIEWS if len(view) == many for table in sound_tables(view)]


def some_pairs(chance, many):
    """A pair of so many states, with a view of any order of its numbers."""
    view = chance.choice([view for view in SMALL_VIEWS + LARGER_VIEWS if len(view) == many])
    return (view, chance.choice(sound_tables(view)))


def put(pair, state, value):
    return None if state is None else pair[1][state][value]


def states_of(pair):
    return range(len(pair[0]))


def values_of(pair):
    return range(max(pair[0]) + 1)


def linked_by(pairs):
    return lambda s, t: any(t in table[s] for view, table in pairs)


def joined_shown(pairs):
    rows = list(zip(*[view for view, table in pairs]))
    return tuple(sorted(set(rows)).index(row) for row in rows)


def joined_parts(pairs):
    """The grouping with the most groups in which each part of each table lies in one group."""
    fitting = [groups for groups in all_groupings(pairs[0][0])
               if all(any(s in group and t in group for group in groups)
                      for s, t in product(states_of(pairs[0]), repeat=2) if linked_by(pairs)(s, t))]
    return max(fitting, key=len)


def first_joined(pairs):
    """What `joined` returns, found among all groupings of the states and all traces."""
    view = joined_shown(pairs)
    parts = joined_parts(pairs)
    if lets_apart(view, parts):
        return ("table", view, written_out(view, parts))
    return ("clash", first_walk(view, linked_by(pairs)))


def first_dependence(one, other):
    """What `dependence` returns, from lists of all places."""
    found = []
    for position, (writing, watching) in enumerate([(one, other), (other, one)]):
        found.append([("moves", position, s, v) for s in states_of(one) for v in values_of(writing)
                      if put(writing, s, v) is not None and watching[0][put(writing, s, v)] != watching[0][s]])
    found.append([("order", s, a, b) for s in states_of(one) for a in values_of(one) for b in values_of(other)
                  if put(other, put(one, s, a), b) != put(one, put(other, s, b), a)])
    for places in found:
        if places:
            return min(places)
    return None


def asks_joined(*args):
    return shows_joined(*args[:-1], answer=args[-1])


def merges(one, other, base, mine, its):
    return merged(one, other, base, mine=mine, its=its)


class ChainTest(unittest.TestCase):
    def test_entry_by_entry(self):
        inner, inner_table = (0, 1, 2, 0), ((0, 1, 2), (0, 1, 2), (0, 1, 2), (3, None, None))
        outer, outer_table = (0, 1, 0), ((0, 1), (0, 1), (2, None))
        # State 2 shows the inner value 2, where the outer table refuses 1; state 3 is alone by the inner table.
        self.assertEqual(chain(inner, inner_table, outer, outer_table),
                         ((0, 1, 0, 0), ((0, 1), (0, 1), (2, None), (3, None))))

    def test_the_outer_table_refuses(self):
        full = ((0, 1), (0, 1))
        self.assertEqual(chain((0, 1), full, (0, 1), ((0, None), (None, 1))), ((0, 1), ((0, None), (None, 1))))

    def test_the_inner_table_refuses(self):
        full = ((0, 1), (0, 1))
        self.assertEqual(chain((0, 1), ((0, None), (None, 1)), (0, 1), full), ((0, 1), ((0, None), (None, 1))))
        self.assertEqual(chain(VIEW, TABLE, (1, 0), ((1, 0), (1, 0))), ((1, 0, 1), ((1, 0), (1, 0), (None, 2))))

    def test_one_value(self):
        self.assertEqual(chain((0,), ((0,),), (0,), ((0,),)), ((0,), ((0,),)))
        self.assertEqual(chain((0, 0), ((0,), (1,)), (0,), ((0,),)), ((0, 0), ((0,), (1,))))
        # The outer view shows the same everywhere.
        self.assertEqual(chain(VIEW, TABLE, (0, 0), ((0,), (1,))), ((0, 0, 0), ((0,), (1,), (2,))))

    def test_nine_states(self):
        view = tuple(range(8, -1, -1))
        self.assertEqual(chain(view, (view,) * 9, view, (view,) * 9), (tuple(range(9)), (tuple(range(9)),) * 9))

    def test_all_small_views(self):
        outers = {k: [(view, table) for view in SMALL_VIEWS if len(view) == k for table in sound_tables(view)]
                  for k in range(1, 4)}
        for many in range(1, 5):
            for inner, inner_table in pairs_of(many):
                for outer, outer_table in outers.get(max(inner) + 1, []):
                    self.check(inner, inner_table, outer, outer_table)

    def check(self, inner, inner_table, outer, outer_table):
        view, table = chain(inner, inner_table, outer, outer_table)
        self.assertIs(is_view(view), True)
        self.assertIs(is_table(view, table), True)
        self.assertIsNone(broken(view, table))
        for s in range(len(inner)):
            self.assertEqual(view[s], outer[inner[s]])
            for b in range(max(outer) + 1):
                value = outer_table[inner[s]][b]
                self.assertEqual(table[s][b], None if value is None else inner_table[s][value])
            for t in range(len(inner)):
                in_one_part = t in inner_table[s] and inner[t] in outer_table[inner[s]]
                self.assertEqual(t in table[s], in_one_part)

    def test_errors_of_the_inner_ones(self):
        outer, outer_table = (0, 1), ((0, 1), (0, 1))
        for thing in NO_VIEWS:
            for args in [(TABLE, outer, outer_table), (UNSOUND, None, None), (None, None, None)]:
                with self.subTest(repr(thing)[:80]), self.assertRaises(NoView):
                    chain(thing, *args)
        for thing in NO_TABLES:
            for args in [(outer, outer_table), (None, outer_table), (outer, None), ((0, 1, 2), None)]:
                with self.subTest(repr(thing)[:80]), self.assertRaises(NoTable):
                    chain(VIEW, thing, *args)
        for table in NOT_SOUND:
            for args in [(outer, outer_table), (None, outer_table), (outer, None), ((0, 1, 2), None)]:
                with self.subTest(table), self.assertRaises(NotSound):
                    chain(VIEW, table, *args)

    def test_errors_of_the_outer_ones(self):
        inner, inner_table = (0, 1, 2), ((0, 1, 2),) * 3
        for thing in NO_VIEWS:
            for table in [TABLE, UNSOUND, None]:
                with self.subTest(repr(thing)[:80]), self.assertRaises(NoView):
                    chain(inner, inner_table, thing, table)
        for thing in NO_TABLES:
            with self.subTest(repr(thing)[:80]), self.assertRaises(NoTable):
                chain(inner, inner_table, VIEW, thing)
        for table in NOT_SOUND:
            with self.subTest(table), self.assertRaises(NotSound):
                chain(inner, inner_table, VIEW, table)

    def test_another_number_of_states(self):
        # The inner view has three states, and two values.
        for outer, table in [(VIEW, TABLE), ((0,), ((0,),)), ((0, 1, 2), ((0, 1, 2),) * 3), (VIEW, UNSOUND),
                             (VIEW, None), ((0,), ())]:
            with self.subTest(outer), self.assertRaises(NoView):
                chain(VIEW, TABLE, outer, table)

    def test_calls_are_clean(self):
        for thing in NO_VIEWS + NO_TABLES + NOT_SOUND + [VIEW, TABLE]:
            calls_are_clean(self, chain, thing, TABLE, (0, 1), ((0, 1), (0, 1)))
            calls_are_clean(self, chain, VIEW, thing, (0, 1), ((0, 1), (0, 1)))
            calls_are_clean(self, chain, VIEW, TABLE, thing, ((0, 1), (0, 1)))
            calls_are_clean(self, chain, VIEW, TABLE, (0, 1), thing)


class JoinedTest(unittest.TestCase):
    def test_one_pair(self):
        self.assertEqual(joined(PAIR), ("table", VIEW, TABLE))
        self.assertEqual(joined(((1, 0), ((1, 0), (1, 0)))), ("table", (1, 0), ((1, 0), (1, 0))))
        for many in range(1, 5):
            for view, table in pairs_of(many):
                self.assertEqual(joined((view, table)), ("table", view, table))

    def test_two_pairs(self):
        self.assertEqual(joined(ONE, OTHER), ("table", (0, 1, 2, 3), ((0, 1, 2, 3),) * 4))
        self.assertEqual(joined(OTHER, ONE), ("table", (0, 2, 1, 3), ((0, 2, 1, 3),) * 4))
        self.assertEqual(joined(LOW, HIGH), ("table", (0, 1, 2), ((0, 1, 2),) * 3))

    def test_views_that_show_the_same_at_different_states(self):
        stay = (VIEW, ((0, None), (None, 1), (2, None)))
        self.assertEqual(joined(stay, PAIR), ("table", VIEW, TABLE))
        self.assertEqual(joined(stay, stay), ("table",) + stay)

    def test_three_and_four_pairs(self):
        views = [(0, 0, 0, 0, 1, 1, 1, 1), (0, 0, 1, 1, 0, 0, 1, 1), (0, 1, 0, 1, 0, 1, 0, 1)]
        tables = [tuple((s & ~bit, s | bit) for s in range(8)) for bit in (4, 2, 1)]
        pairs = list(zip(views, tables))
        self.assertEqual(joined(*pairs), ("table", tuple(range(8)), (tuple(range(8)),) * 8))
        self.assertEqual(joined(*pairs, pairs[0]), ("table", tuple(range(8)), (tuple(range(8)),) * 8))
        self.assertEqual(joined(pairs[2], pairs[2], pairs[2], pairs[1])[0], "table")
        self.assertEqual(joined(PAIR, PAIR, PAIR), ("table", VIEW, TABLE))
        self.assertEqual(joined(PAIR, PAIR, PAIR, PAIR), ("table", VIEW, TABLE))

    def test_clash(self):
        # One table leads from 0 to 1, the other one from 1 to 2, where both views show what they show at 0.
        other = (VIEW, ((0, None), (2, 1), (2, 1)))
        self.assertEqual(joined(PAIR, other), ("clash", (0, 1, 2)))
        self.assertEqual(joined(other, PAIR), ("clash", (0, 1, 2)))
        self.assertEqual(joined(PAIR, PAIR, PAIR, other), ("clash", (0, 1, 2)))

    def test_clash_with_a_shortest_trace_and_of_these_the_smallest(self):
        view = (0, 1, 2, 0, 2)
        one = (view, written_out(view, ((0, 1), (2, 3), (4,))))
        # 0 - 1 - 2 - 3, and 2 - 1 - 4, which is shorter.
        other = (view, written_out(view, ((0,), (1, 2), (3,), (4,))))
        third = (view, written_out(view, ((0,), (1, 4), (2,), (3,))))
        self.assertEqual(joined(one, other), ("clash", (0, 1, 2, 3)))
        self.assertEqual(joined(one, other, third), ("clash", (2, 1, 4)))
        # From 0 to 3 by way of 1 or of 2.
        view = (0, 1, 2, 0)
        one = (view, written_out(view, ((0, 1), (2, 3))))
        other = (view, written_out(view, ((0, 2), (1, 3))))
        self.assertEqual(joined(one, other), ("clash", (0, 1, 3)))

    def test_nine_states(self):
        view = tuple(range(8)) + (0,)
        one = (view, written_out(view, ((0, 1), (2, 3), (4, 5), (6, 7), (8,))))
        other = (view, written_out(view, ((0,), (1, 2), (3, 4), (5, 6), (7, 8))))
        self.assertEqual(joined(one, other), ("clash", tuple(range(9))))
        all_apart = (tuple(range(9)), written_out(tuple(range(9)), tuple((s,) for s in range(9))))
        # The tuples of values are (0, 0, 0) at state 0, (0, 0, 8) at state 8, and (1, 1, 1) at state 1.
        together = ("table", (0, 2, 3, 4, 5, 6, 7, 8, 1), ((0, 8, 1, 2, 3, 4, 5, 6, 7),) * 9)
        self.assertEqual(joined(one, other, all_apart), together)
        self.assertEqual(joined(all_apart, one, other), ("table", tuple(range(9)), (tuple(range(9)),) * 9))
        self.assertEqual(joined(((0,) * 9, tuple((s,) for s in range(9))), all_apart), ("table",) + all_apart)

    def test_all_two_pairs_of_small_views(self):
        for many in range(1, 4):
            for pairs in product(pairs_of(many), repeat=2):
                self.assertEqual(repr(joined(*pairs)), repr(first_joined(pairs)), pairs)

    def test_many_pairs(self):
        chance = random.Random(4)
        kinds = {}
        for _ in range(1200):
            many = chance.randint(2, 6)
            pairs = [some_pairs(chance, many) for _ in range(chance.randint(1, 4))]
            expected = first_joined(pairs)
            kinds[expected[0]] = kinds.get(expected[0], 0) + 1
            self.assertEqual(repr(joined(*pairs)), repr(expected), pairs)
        self.assertEqual(sorted(kind for kind in kinds if kinds[kind] > 50), ["clash", "table"])

    def test_none_and_five(self):
        self.assertRaises(NoPairs, joined)
        self.assertRaises(NoPairs, joined, *[PAIR] * 5)
        self.assertRaises(NoPairs, joined, *[PAIR] * 3000)

    def test_no_pairs(self):
        for thing in NO_PAIRS:
            for pairs in [(thing,), (thing, PAIR), (PAIR, thing), (PAIR, PAIR, PAIR, thing)]:
                with self.subTest(repr(thing)[:80]), self.assertRaises(NoPairs):
                    joined(*pairs)

    def test_pairs_that_do_not_fit(self):
        for pairs in [(ONE, PAIR), (PAIR, ONE), (PAIR, PAIR, ONE), (((0,), ((0,),)), PAIR)]:
            with self.subTest(pairs), self.assertRaises(NoPairs):
                joined(*pairs)

    def test_calls_are_clean(self):
        for thing in NO_PAIRS + [PAIR, LOW, ONE]:
            calls_are_clean(self, joined, thing)
            calls_are_clean(self, joined, PAIR, thing)
            calls_are_clean(self, joined, LOW, HIGH, thing)


class ShowsJoinedTest(unittest.TestCase):
    def check(self, pairs, right, wrong):
        for thing in right:
            self.assertIs(shows_joined(*pairs, answer=thing), True, thing)
        for thing in wrong:
            self.assertIs(shows_joined(*pairs, answer=thing), False, thing)

    def test_answer_is_passed_by_its_name(self):
        kinds = [parameter.kind for parameter in inspect.signature(shows_joined).parameters.values()]
        self.assertEqual(kinds, [inspect.Parameter.VAR_POSITIONAL, inspect.Parameter.KEYWORD_ONLY])
        self.assertEqual(list(inspect.signature(shows_joined).parameters), ["pairs", "answer"])
        with self.assertRaises(TypeError):
            shows_joined(PAIR)

    def test_the_table(self):
        self.check([PAIR], [("table", VIEW, TABLE)], [
            ["table", VIEW, TABLE],
            ("table", list(VIEW), TABLE),
            ("table", VIEW, list(TABLE)),
            ("table", VIEW, ([0, 1], [0, 1], [2, None])),
            ("table", VIEW, UNSOUND),
            ("table", VIEW, ((0, None), (None, 1), (2, None))),
            ("table", (1, 0, 1), ((1, 0), (1, 0), (None, 2))),
            ("table", (0, True, 0), TABLE),
            ("table", (False, 1, 0), TABLE),
            ("table", VIEW, ((0, True), (0, 1), (2, None))),
            ("table", VIEW, ((0, 1), (0, 1), (2, False))),
            ("table", TABLE, VIEW),
            ("table", TABLE),
            ("table", VIEW),
            ("table", VIEW, TABLE, None),
            ("table", PAIR),
            ("table",),
            ("Table", VIEW, TABLE),
            (None, VIEW, TABLE),
            (VIEW, TABLE),
            "table",
            {"table": PAIR},
            # no clashes
            ("clash", (0, 1)),
            ("clash", (0, 1, 0)),
            ("clash", (0, 2)),
            ("clash", (0,)),
            ("clash", ()),
        ])

    def test_the_table_of_two_pairs(self):
        self.check([ONE, OTHER], [("table", (0, 1, 2, 3), ((0, 1, 2, 3),) * 4)], [
            ("table", (0, 2, 1, 3), ((0, 2, 1, 3),) * 4),
            ("table", (0, 1, 2, 3), written_out((0, 1, 2, 3), ((0, 1), (2, 3)))),
            ("clash", (0, 1, 3)),
        ])

    def test_clash(self):
        other = (VIEW, ((0, None), (2, 1), (2, 1)))
        right = [("clash", (0, 1, 2)), ("clash", (2, 1, 0)), ("clash", (0, 1, 0, 1, 2)), ("clash", (0, 1) * 1000 + (2,))]
        self.check([PAIR, other], right, [
            # steps that are in one part of none of the tables, and a step from a state to itself
            ("clash", (0, 2)),
            ("clash", (2, 0)),
            ("clash", (0, 0, 1, 2)),
            ("clash", (0, 1, 1, 2)),
            # ends that are the same, or at which the views do not agree
            ("clash", (0,)),
            ("clash", (0, 1)),
            ("clash", (0, 1, 0)),
            # bools in the place of numbers, and no states
            ("clash", (False, 1, 2)),
            ("clash", (0, True, 2)),
            ("clash", (0, 1, 3)),
            ("clash", (0, 1, -1)),
            ("clash", (0, 1, None)),
            ("clash", (0, "1", 2)),
            # lists, and other kinds and lengths
            ("clash", [0, 1, 2]),
            ["clash", (0, 1, 2)],
            ("clash", ()),
            ("clash", None),
            ("clash", 0),
            ("clash", "012"),
            ("clash",),
            ("clash", (0, 1, 2), None),
            ("clash", 0, 1, 2),
            ("twice", (0, 1, 2)),
            ("Clash", (0, 1, 2)),
            (None, (0, 1, 2)),
            ((0, 1, 2), "clash"),
            {"clash": (0, 1, 2)},
            ("table", VIEW, TABLE),
            ("table", VIEW, ((0, 1), (0, 1), (2, 1))),
            ("table", (0, 1, 2)),
        ])

    def test_one_view_alone_that_shows_the_same_is_no_clash(self):
        self.check([LOW, HIGH], [("table", (0, 1, 2), ((0, 1, 2),) * 3)], [("clash", (0, 1)), ("clash", (1, 2))])
        # At 0 and 2 the first view shows the same, but not the second one.
        apart = ((0, 1, 1), ((0, None), (None, 1), (None, 2)))
        other = (VIEW, ((0, None), (2, 1), (2, 1)))
        self.check([PAIR, other, apart], [joined(PAIR, other, apart)], [("clash", (0, 1, 2)), ("clash", (2, 1, 0))])

    def test_other_kinds(self):
        other = (VIEW, ((0, None), (2, 1), (2, 1)))
        for pairs in [[PAIR], [PAIR, other], [ONE, OTHER]]:
            self.check(pairs, [], ODD_THINGS + [(), PAIR, ("clash", "table", "clash")])

    def test_every_answer_for_small_views(self):
        chance = random.Random(5)
        for _ in range(200):
            many = chance.randint(2, 4)
            pairs = [some_pairs(chance, many) for _ in range(chance.randint(1, 4))]
            view, linked = joined_shown(pairs), linked_by(pairs)
            for length in range(1, 5):
                for trace in product(range(many), repeat=length):
                    expected = (is_walk(linked, trace) and trace[0] != trace[-1]
                                and view[trace[0]] == view[trace[-1]])
                    self.assertIs(shows_joined(*pairs, answer=("clash", trace)), expected, (pairs, trace))
            expected = first_joined(pairs)
            for table in sound_tables(view):
                self.assertIs(shows_joined(*pairs, answer=("table", view, table)), expected == ("table", view, table))
            self.assertIs(shows_joined(*pairs, answer=expected), True)

    def test_no_pairs(self):
        for answer in [("table", VIEW, TABLE), ("clash", (0, 1, 2)), None]:
            self.assertRaises(NoPairs, shows_joined, answer=answer)
            self.assertRaises(NoPairs, shows_joined, *[PAIR] * 5, answer=answer)
            self.assertRaises(NoPairs, shows_joined, PAIR, ONE, answer=answer)
            for thing in NO_PAIRS:
                with self.subTest(repr(thing)[:80]):
                    self.assertRaises(NoPairs, shows_joined, thing, answer=answer)
                    self.assertRaises(NoPairs, shows_joined, PAIR, thing, answer=answer)

    def test_calls_are_clean(self):
        for thing in NO_PAIRS + [("table", VIEW, TABLE), ["clash", [0, 1, 2]], ("clash", [0, 1, 2])]:
            calls_are_clean(self, asks_joined, PAIR, thing)
            calls_are_clean(self, asks_joined, LOW, HIGH, thing)
            calls_are_clean(self, asks_joined, thing, thing)


class DependenceTest(unittest.TestCase):
    def test_example_of_the_document(self):
        self.assertIsNone(dependence(ONE, OTHER))
        self.assertIsNone(dependence(OTHER, ONE))

    def test_other_independent_pairs(self):
        stay = (VIEW, ((0, None), (None, 1), (2, None)))
        self.assertIsNone(dependence(stay, stay))
        self.assertIsNone(dependence(PAIR, ((0, 0, 0), ((0,), (1,), (2,)))))
        self.assertIsNone(dependence(((0,), ((0,),)), ((0,), ((0,),))))

    def test_moves(self):
        self.assertEqual(dependence(PAIR, PAIR), ("moves", 0, 0, 1))
        stay = (VIEW, ((0, None), (None, 1), (2, None)))
        self.assertEqual(dependence(PAIR, stay), ("moves", 0, 0, 1))
        self.assertEqual(dependence(stay, PAIR), ("moves", 1, 0, 1))

    def test_moves_at_the_smallest_place(self):
        # The only write leads between 1 and 2.
        late = (VIEW, ((0, None), (2, 1), (2, 1)))
        stay = ((0, 1, 2), ((0, None, None), (None, 1, None), (None, None, 2)))
        self.assertEqual(dependence(late, stay), ("moves", 0, 1, 0))
        self.assertEqual(dependence(stay, late), ("moves", 1, 1, 0))
        # The smallest value of several.
        full = ((0, 1, 2), ((0, 1, 2),) * 3)
        self.assertEqual(dependence(full, stay), ("moves", 0, 0, 1))
        self.assertEqual(dependence(full, HIGH), ("moves", 0, 0, 2))

    def test_the_first_table_comes_first(self):
        # The first one moves at 1, the second one at 0 already.
        self.assertEqual(dependence((VIEW, ((0, None), (2, 1), (2, 1))), PAIR), ("moves", 0, 1, 0))

    def test_order_where_both_orders_lead_to_states(self):
        one = ((0, 0, 0, 0, 1, 1, 1, 1), written_out((0, 0, 0, 0, 1, 1, 1, 1), ((0, 4), (1, 5), (2, 6), (3, 7))))
        view = (0, 0, 1, 1, 0, 0, 1, 1)
        other = (view, written_out(view, ((0, 2), (1, 3), (4, 7), (5, 6))))
        self.assertEqual(dependence(one, other), ("order", 0, 1, 1))
        other = (view, written_out(view, ((0, 2), (1, 3), (4, 6), (5, 7))))
        self.assertIsNone(dependence(one, other))

    def test_order_where_one_of_the_orders_is_refused(self):
        # From 0 each table leads to another state, from where the other one leads nowhere.
        one = ((0, 1, 0), ((0, 1), (0, 1), (2, None)))
        other = ((0, 0, 1), ((0, 2), (1, None), (0, 2)))
        self.assertEqual(dependence(one, other), ("order", 1, 0, 1))
        self.assertEqual(dependence(other, one), ("order", 1, 1, 0))

    def test_order_comes_last(self):
        # The two orders differ at 0 already, but the views move, too.
        pair = ((0, 1, 2, 0), written_out((0, 1, 2, 0), ((0, 1, 2), (3,))))
        other = ((0, 0, 0, 1), written_out((0, 0, 0, 1), ((0, 3), (1,), (2,))))
        self.assertEqual(dependence(pair, other), ("order", 1, 0, 1))
        moved = ((0, 0, 1, 2), written_out((0, 0, 1, 2), ((0, 3), (1,), (2,))))
        self.assertEqual(dependence(pair, moved), ("moves", 0, 0, 2))
        self.assertEqual(dependence(moved, pair), ("moves", 1, 0, 2))

    def test_all_two_pairs_of_small_views(self):
        kinds = {}
        for many in range(1, 5):
            for one, other in product(pairs_of(many), repeat=2):
                expected = first_dependence(one, other)
                kinds[expected and expected[:2] if expected is None or expected[0] == "moves" else "order"] = True
                self.assertEqual(repr(dependence(one, other)), repr(expected), (one, other))
        self.assertEqual(set(kinds), {None, ("moves", 0), ("moves", 1), "order"})

    def test_some_pairs_of_larger_views(self):
        chance = random.Random(6)
        for _ in range(600):
            many = chance.randint(3, 6)
            one, other = some_pairs(chance, many), some_pairs(chance, many)
            self.assertEqual(repr(dependence(one, other)), repr(first_dependence(one, other)), (one, other))

    def test_no_pairs(self):
        for thing in NO_PAIRS:
            with self.subTest(repr(thing)[:80]):
                self.assertRaises(NoPairs, dependence, thing, PAIR)
                self.assertRaises(NoPairs, dependence, PAIR, thing)
                self.assertRaises(NoPairs, dependence, thing, thing)

    def test_pairs_that_do_not_fit(self):
        self.assertRaises(NoPairs, dependence, ONE, PAIR)
        self.assertRaises(NoPairs, dependence, PAIR, ONE)

    def test_calls_are_clean(self):
        for thing in NO_PAIRS + [PAIR, LOW, HIGH, ONE]:
            calls_are_clean(self, dependence, thing, PAIR)
            calls_are_clean(self, dependence, PAIR, thing)


class MergedTest(unittest.TestCase):
    def test_example_of_the_document(self):
        self.assertEqual(merged(ONE, OTHER, 0, mine=2, its=1), 3)

    def test_mine_and_its_are_passed_by_their_names(self):
        parameters = inspect.signature(merged).parameters
        self.assertEqual(list(parameters), ["one", "other", "base", "mine", "its"])
        for name in ["mine", "its"]:
            self.assertIs(parameters[name].kind, inspect.Parameter.KEYWORD_ONLY)
            self.assertIs(parameters[name].default, inspect.Parameter.empty)
        with self.assertRaises(TypeError):
            merged(ONE, OTHER, 0, 2, 1)

    def test_writes_of_the_value_that_is_shown(self):
        self.assertEqual(merged(ONE, OTHER, 0, mine=0, its=0), 0)
        self.assertEqual(merged(ONE, OTHER, 0, mine=2, its=0), 2)
        self.assertEqual(merged(ONE, OTHER, 0, mine=0, its=1), 1)
        self.assertEqual(merged(ONE, OTHER, 3, mine=3, its=3), 3)

    def test_all_writes_of_the_example(self):
        for base, a, b in product(range(4), range(2), range(2)):
            mine, its = ONE[1][base][a], OTHER[1][base][b]
            self.assertEqual(merged(ONE, OTHER, base, mine=mine, its=its), 2 * a + b)
            self.assertEqual(merged(OTHER, ONE, base, mine=its, its=mine), 2 * a + b)

    def test_all_independent_pairs_of_small_views(self):
        moving = 0
        for many in range(1, 5):
            for one, other in product(pairs_of(many), repeat=2):
                if first_dependence(one, other) is None:
                    moving += self.check(one, other)
        self.assertGreater(moving, 0)

    def test_nine_states(self):
        view = (0, 0, 0, 1, 1, 1, 2, 2, 2)
        one = (view, tuple((s, s + 3, s + 6) for s in (0, 1, 2)) * 3)
        other = ((0, 1, 2) * 3, tuple((s, s + 1, s + 2) for s in (0, 0, 0, 3, 3, 3, 6, 6, 6)))
        self.assertEqual(merged(one, other, 4, mine=7, its=3), 6)
        self.assertEqual(self.check(one, other), 9 * 4)

    def check(self, one, other):
        """Check all writes, and return how many of them move by both tables."""
        moving = 0
        for base, mine, its in product(states_of(one), repeat=3):
            if mine not in one[1][base] or its not in other[1][base]:
                with self.assertRaises(NoStep):
                    merged(one, other, base, mine=mine, its=its)
                continue
            result = merged(one, other, base, mine=mine, its=its)
            self.assertIs(type(result), int)
            a, b = one[0][mine], other[0][its]
            self.assertEqual((one[0][result], other[0][result]), (a, b))
            self.assertEqual(put(other, put(one, base, a), b), result)
            self.assertEqual(put(one, put(other, base, b), a), result)
            moving += mine != base and its != base
        return moving

    def test_no_pairs(self):
        for thing in NO_PAIRS:
            for base, mine, its in [(0, 0, 0), (0, 1, 2), (None, None, None)]:
                with self.subTest(repr(thing)[:80]):
                    self.assertRaises(NoPairs, merged, thing, PAIR, base, mine=mine, its=its)
                    self.assertRaises(NoPairs, merged, PAIR, thing, base, mine=mine, its=its)
        self.assertRaises(NoPairs, merged, ONE, PAIR, 0, mine=0, its=0)
        self.assertRaises(NoPairs, merged, PAIR, ONE, None, mine=None, its=None)

    def test_not_independent(self):
        order = ((0, 0, 1), ((0, 2), (1, None), (0, 2)))
        for one, other in [(PAIR, PAIR), (PAIR, HIGH), (HIGH, PAIR), (PAIR, order)]:
            for base, mine, its in [(0, 0, 0), (0, 2, 2), (3, 0, 0), (None, None, None)]:
                with self.subTest((one, other)), self.assertRaises(NotIndependent):
                    merged(one, other, base, mine=mine, its=its)

    def test_no_state(self):
        for thing in NO_NUMBERS + [4]:
            for state in [0, 3, None]:
                with self.subTest(repr(thing)[:80]):
                    self.assertRaises(NoState, merged, ONE, OTHER, thing, mine=state, its=state)
                    self.assertRaises(NoState, merged, ONE, OTHER, 0, mine=thing, its=state)
                    self.assertRaises(NoState, merged, ONE, OTHER, 0, mine=state, its=thing)

    def test_no_state_where_a_bool_equals_one(self):
        self.assertRaises(NoState, merged, ONE, OTHER, False, mine=2, its=1)
        self.assertRaises(NoState, merged, ONE, OTHER, 0, mine=2, its=True)
        self.assertRaises(NoState, merged, ONE, OTHER, 0, mine=False, its=1)

    def test_no_step(self):
        for base, mine, its in [(0, 1, 0), (0, 3, 0), (0, 2, 2), (0, 0, 3), (0, 1, 2), (3, 0, 3), (3, 3, 0)]:
            with self.subTest((base, mine, its)), self.assertRaises(NoStep):
                merged(ONE, OTHER, base, mine=mine, its=its)

    def test_calls_are_clean(self):
        for thing in NO_PAIRS + [PAIR, ONE, OTHER]:
            calls_are_clean(self, merges, thing, OTHER, 0, 2, 1)
            calls_are_clean(self, merges, ONE, thing, 0, 2, 1)
            calls_are_clean(self, merges, ONE, OTHER, thing, 2, 1)
            calls_are_clean(self, merges, ONE, OTHER, 0, thing, 1)
            calls_are_clean(self, merges, ONE, OTHER, 0, 2, thing)


if __name__ == "__main__":
    unittest.main()
