"""What the document says holds of the parts together, promise 90."""

import random
import unittest
from itertools import product
from math import factorial

from samples import LARGER_VIEWS, ORDERLY_VIEWS, SMALL_VIEWS, sound_tables
from writebacks.counts import count_full, full_tables, tables, widest
from writebacks.desk import Desk
from writebacks.family import JoinedView, KeptView, TableView, View, WishView
from writebacks.joins import dependence, joined, merged
from writebacks.parts import kept_by, parts_of, table_of
from writebacks.tables import broken, permitted
from writebacks.texts import read_table, table_text
from writebacks.wishes import full_with, smallest, ungranted


def independent_pairs(most):
    """All two independent pairs of up to so many states, with one view of each shape."""
    for many in range(1, most + 1):
        pairs = [(view, table) for view in ORDERLY_VIEWS if len(view) == many for table in sound_tables(view)]
        for one, other in product(pairs, repeat=2):
            if dependence(one, other) is None:
                yield one, other


class LawsTest(unittest.TestCase):
    def test_tables_and_partitions_are_the_same_thing(self):
        for view in SMALL_VIEWS + LARGER_VIEWS:
            found = list(tables(view))
            parts = [parts_of(view, table) for table in found]
            self.assertEqual(parts, sorted(set(parts)))
            self.assertEqual([table_of(view, one) for one in parts], found)

    def test_after_permitted_writes_only_the_last_one_counts(self):
        for view in SMALL_VIEWS:
            for table in list(tables(view)) + [widest(view)[1]]:
                self.check_writes(view, table, 3)

    def check_writes(self, view, table, many):
        for start in range(len(view)):
            for values in product(range(max(view) + 1), repeat=many):
                state = start
                for value in values:
                    state = None if state is None else table[state][value]
                if state is not None:
                    self.assertEqual(state, table[start][values[-1]])
                    self.assertEqual(table[state][view[start]], start)

    def test_writes_by_all_kinds_of_tables(self):
        view = (0, 1, 2, 2, 1, 0)
        for table in full_tables(view):
            self.check_writes(view, table, 3)
        self.check_writes(view, full_with(view, ((0, 1, 4), (3, 0, 5))), 3)
        self.check_writes(view, smallest(view, ((0, 1, 4), (3, 0, 5)))[1], 3)

    def test_every_sound_table_with_the_wishes_permits_what_the_smallest_one_permits(self):
        chance = random.Random(7)
        met = 0
        for _ in range(1500):
            view = chance.choice(SMALL_VIEWS + LARGER_VIEWS)
            wanted = chance.choice(sound_tables(view))
            wishes = []
            for _ in range(chance.randint(0, 8)):
                s, v = chance.randrange(len(view)), chance.randrange(max(view) + 1)
                wishes.append((s, v, wanted[s][v]))
            kind, table = smallest(view, tuple(wishes))
            self.assertEqual(kind, "table")
            self.assertIsNone(broken(view, table))
            self.assertEqual(ungranted(view, table, tuple(wishes)), ())
            for other in tables(view):
                if ungranted(view, other, tuple(wishes)) == ():
                    met += 1
                    for s, v in product(range(len(view)), range(max(view) + 1)):
                        if table[s][v] is not None:
                            self.assertEqual(other[s][v], table[s][v])
        self.assertGreater(met, 1500)

    def test_views_with_tables_that_permit_every_write(self):
        for view in SMALL_VIEWS + LARGER_VIEWS:
            sizes = {view.count(value) for value in view}
            full = [table for table in tables(view) if all(None not in row for row in table)]
            if len(sizes) == 1:
                self.assertEqual(len(full), factorial(sizes.pop()) ** max(view))
            else:
                self.assertEqual(full, [])
            self.assertEqual(list(full_tables(view)), full)
            self.assertEqual(count_full(view), len(full))

    def test_independent_pairs_can_be_joined(self):
        for one, other in independent_pairs(4):
            self.check_join(one, other)

    def test_independent_pairs_of_more_states(self):
        six = ((0, 0, 0, 1, 1, 1), ((0, 3), (1, 4), (2, 5)) * 2), ((0, 1, 2) * 2, ((0, 1, 2),) * 3 + ((3, 4, 5),) * 3)
        five = (((0, 1, 0, 1, 2), ((0, 1, None), (0, 1, None), (2, 3, None), (2, 3, None), (None, None, 4))),
                ((0, 0, 1, 1, 0), ((0, 2), (1, 3), (0, 2), (1, 3), (4, None))))
        for one, other in [six, five]:
            self.assertIsNone(dependence(one, other))
            self.check_join(one, other)

    def check_join(self, one, other):
        kind, view, table = joined(one, other)
        self.assertEqual(kind, "table")
        for part in parts_of(view, table):
            shown = {(one[0][s], other[0][s]) for s in part}
            self.assertEqual(shown, set(product({a for a, b in shown}, {b for a, b in shown})))
        for s, row in enumerate(table):
            for result in row:
                if result is not None:
                    middle = one[1][s][one[0][result]]
                    self.assertIsNotNone(middle)
                    self.assertEqual(other[1][middle][other[0][result]], result)


class ObjectsTest(unittest.TestCase):
    """That objects answer what the functions answer."""

    def test_tables_partitions_and_texts(self):
        for view in SMALL_VIEWS + LARGER_VIEWS:
            for table in tables(view):
                held = TableView(view, table)
                self.assertEqual(held.parts, parts_of(view, table))
                self.assertEqual(table_of(held.shown, held.parts), held.table)
                self.assertEqual(KeptView(view, kept_by(view, table)), held)
                self.assertEqual(View.read(table_text(view, table)), held)
                self.assertEqual(read_table(table_text(held.shown, held.table)), (view, table))
                self.assertEqual(sum(len(held.may(s)) for s in range(len(view))), permitted(view, table))
                self.check_puts(held)

    def check_puts(self, held):
        for s in range(len(held.shown)):
            results = [held.put(s, v) for v in held.may(s)]
            self.assertEqual(sorted(results), sorted(held.reachable(s)))
            for t, v in product(results, held.may(s)):
                self.assertEqual(held.put(t, v), held.put(s, v))
                self.assertEqual(held.put(t, held.value_at(s)), s)

    def test_after_permitted_writes_at_a_desk_only_the_last_one_counts(self):
        for view in ORDERLY_VIEWS:
            for table in tables(view):
                for s in range(len(view)):
                    held = TableView(view, table)
                    for values in product(held.may(s), repeat=3):
                        self.check_desk(Desk(s, held), values)

    def check_desk(self, desk, values):
        first, old = desk.state, desk.cell(0).value
        desk.do(*[(0, value) for value in values])
        last = desk.state
        desk.undo()
        for value in values:
            desk.cell(0).value = value
        self.assertEqual(desk.state, last)
        desk.state = first
        desk.cell(0).value = values[-1]
        self.assertEqual(desk.state, last)
        desk.cell(0).value = old
        self.assertEqual(desk.state, first)

    def test_wishes_and_desks(self):
        chance = random.Random(11)
        for _ in range(300):
            view = chance.choice(SMALL_VIEWS + LARGER_VIEWS)
            wanted = TableView(view, chance.choice(sound_tables(view)))
            held = WishView(view)
            for _ in range(chance.randint(0, 8)):
                s, v = chance.randrange(len(view)), chance.randrange(max(view) + 1)
                held.learn(s, v, wanted.put(s, v) if v in wanted.may(s) else None)
            self.assertEqual(("table", held.table), smallest(view, held.wishes))
            self.assertEqual(ungranted(view, held.table, held.wishes), ())
            for s in range(len(view)):
                self.assertEqual([held.put(s, v) for v in held.may(s)], [wanted.put(s, v) for v in held.may(s)])
                self.assertLessEqual(set(Desk(s, held).reachable()), set(Desk(s, wanted).reachable()))

    def test_joined_views_and_desks(self):
        for one, other in independent_pairs(4):
            views = [TableView(*one), TableView(*other)]
            both = JoinedView(*views)
            self.assertEqual(joined(one, other), ("table", both.shown, both.table))
            for s in range(len(one[0])):
                self.assertEqual(sorted(Desk(s, *views).reachable()), sorted(both.reachable(s)))
                self.check_merged(one, other, s)

    def check_merged(self, one, other, base):
        desk = Desk(base, TableView(*one), TableView(*other))
        for mine, its in product(*[[t for t in pair[1][base] if t is not None] for pair in (one, other)]):
            steps = ((0, one[0][mine]), (1, other[0][its]))
            for order in (steps, steps[::-1]):
                desk.state = base
                desk.do(*order)
                self.assertEqual(desk.state, merged(one, other, base, mine=mine, its=its))
                self.assertEqual(desk.shown, (one[0][mine], other[0][its]))


if __name__ == "__main__":
    unittest.main()
