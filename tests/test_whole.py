"""What each module tells of one small case: five states, and six states in a rectangle."""

import unittest

from samples import sound_tables
from writebacks.counts import count_full, count_tables, full_tables, tables, widest
from writebacks.desk import Desk
from writebacks.errors import Clash, Refused
from writebacks.family import ChainView, JoinedView, KeptView, LoggedView, TableView, View, WishView
from writebacks.joins import chain, dependence, joined, merged, shows_joined
from writebacks.parts import is_parts, kept_by, parts_of, table_keeping, table_of
from writebacks.tables import broken, is_table, is_view, permitted
from writebacks.texts import read_table, table_text
from writebacks.wishes import are_wishes, full_with, shows_smallest, smallest, ungranted

# Five states: four in a square, and one apart. The first view shows 2 at the one apart.
SHOWN = (0, 1, 0, 1, 2)
PARTS = ((0, 1), (2, 3), (4,))
TABLE = ((0, 1, None), (0, 1, None), (2, 3, None), (2, 3, None), (None, None, 4))
TEXT = "view 0 1 0 1 2\n0: 0 1 -\n1: 0 1 -\n2: 2 3 -\n3: 2 3 -\n4: - - 4\n"
OTHER_SHOWN = (0, 0, 1, 1, 0)
OTHER_PARTS = ((0, 2), (1, 3), (4,))
OTHER_TABLE = ((0, 2), (1, 3), (0, 2), (1, 3), (4, None))
OTHER_TEXT = "view 0 0 1 1 0\n0: 0 2\n1: 1 3\n2: 0 2\n3: 1 3\n4: 4 -\n"

# The first view with other parts, with which the view cannot be joined.
CROSSED = ((0, 3), (1, 2), (4,))
CROSSED_TABLE = ((0, 3, None), (2, 1, None), (2, 1, None), (0, 3, None), (None, None, 4))

# A view of the first view, which has three values.
OUTER = (0, 1, 1)
OUTER_TABLE = ((0, 1), (0, 1), (None, 2))
CHAINED = (0, 1, 0, 1, 1)
CHAINED_TABLE = ((0, 1), (0, 1), (2, 3), (2, 3), (None, 4))

JOINED = (0, 2, 1, 3, 4)
JOINED_TABLE = ((0, 2, 1, 3, None),) * 4 + ((None, None, None, None, 4),)

# Six states: two rows and three columns.
ROWS = (0, 0, 0, 1, 1, 1)
ROWS_TABLE = ((0, 3), (1, 4), (2, 5), (0, 3), (1, 4), (2, 5))
COLUMNS = (0, 1, 2, 0, 1, 2)
COLUMNS_TABLE = ((0, 1, 2),) * 3 + ((3, 4, 5),) * 3


class FiveStatesTest(unittest.TestCase):
    def test_tables(self):
        for view, table in [(SHOWN, TABLE), (OTHER_SHOWN, OTHER_TABLE), (SHOWN, CROSSED_TABLE),
                            (CHAINED, CHAINED_TABLE)]:
            self.assertTrue(is_view(view))
            self.assertTrue(is_table(view, table))
            self.assertIsNone(broken(view, table))
            self.assertEqual(permitted(view, table), 9)
        self.assertFalse(is_table(OTHER_SHOWN, TABLE))
        self.assertEqual(broken(SHOWN, TABLE[:3] + CROSSED_TABLE[3:]), ("forget", 2, 1, 0))
        self.assertEqual(broken(SHOWN, ((0, 2, None),) + TABLE[1:]), ("shown", 0, 1))
        self.assertEqual(broken(SHOWN, TABLE[:4] + ((None,) * 3,)), ("stay", 4))

    def test_parts(self):
        for view, parts, table in [(SHOWN, PARTS, TABLE), (OTHER_SHOWN, OTHER_PARTS, OTHER_TABLE),
                                   (SHOWN, CROSSED, CROSSED_TABLE), (CHAINED, PARTS, CHAINED_TABLE)]:
            self.assertTrue(is_parts(view, parts))
            self.assertEqual(parts_of(view, table), parts)
            self.assertEqual(table_of(view, parts), table)
        self.assertFalse(is_parts(OTHER_SHOWN, PARTS))
        self.assertEqual(kept_by(SHOWN, TABLE), (0, 0, 1, 1, 2))
        self.assertEqual(table_keeping(SHOWN, (0, 0, 1, 1, 2)), TABLE)
        self.assertEqual(table_keeping(OTHER_SHOWN, (2, 0, 2, 0, 1)), OTHER_TABLE)

    def test_counts(self):
        self.assertEqual([count_tables(SHOWN), count_tables(OTHER_SHOWN)], [27, 13])
        self.assertEqual([count_full(SHOWN), count_full(OTHER_SHOWN)], [0, 0])
        self.assertEqual([widest(SHOWN)[0], widest(OTHER_SHOWN)[0]], [13, 9])
        self.assertEqual((list(tables(SHOWN)), list(full_tables(SHOWN))), (sound_tables(SHOWN), []))
        self.assertIn(CROSSED_TABLE, list(tables(SHOWN)))

    def test_wishes(self):
        wishes = ((0, 1, 1), (3, 0, 2), (0, 2, None))
        self.assertTrue(are_wishes(SHOWN, wishes))
        self.assertEqual(smallest(SHOWN, wishes), ("table", TABLE))
        self.assertTrue(shows_smallest(SHOWN, wishes, ("table", TABLE)))
        self.assertEqual(ungranted(SHOWN, CROSSED_TABLE, wishes), (0, 1))
        self.assertIsNone(full_with(SHOWN, wishes))
        self.assertEqual(smallest(SHOWN, wishes + ((0, 1, 2),)), ("shown", 3))
        self.assertEqual(smallest(SHOWN, wishes + ((1, 0, 2),)), ("twice", (0, 1, 2)))
        self.assertEqual(smallest(SHOWN, wishes + ((1, 0, None),)), ("refused", 3, (1, 0)))
        self.assertEqual(smallest(SHOWN, wishes + ((1, 2, 4),)), ("refused", 2, (0, 1, 4)))

    def test_joins(self):
        one, other = (SHOWN, TABLE), (OTHER_SHOWN, OTHER_TABLE)
        self.assertEqual(chain(SHOWN, TABLE, OUTER, OUTER_TABLE), (CHAINED, CHAINED_TABLE))
        self.assertEqual(joined(one, other), ("table", JOINED, JOINED_TABLE))
        self.assertEqual(joined(one, (SHOWN, CROSSED_TABLE)), ("clash", (0, 1, 2)))
        self.assertTrue(shows_joined(one, (SHOWN, CROSSED_TABLE), answer=("clash", (1, 0, 3))))
        self.assertIsNone(dependence(one, other))
        self.assertEqual(dependence(one, (SHOWN, CROSSED_TABLE)), ("moves", 0, 0, 1))
        self.assertEqual(dependence((CHAINED, CHAINED_TABLE), other), None)
        self.assertEqual(merged(one, other, 0, mine=1, its=2), 3)
        self.assertEqual(merged(one, other, 4, mine=4, its=4), 4)

    def test_texts(self):
        self.assertEqual(table_text(SHOWN, TABLE), TEXT)
        self.assertEqual(table_text(OTHER_SHOWN, OTHER_TABLE), OTHER_TEXT)
        self.assertEqual(read_table(TEXT), (SHOWN, TABLE))
        self.assertEqual(read_table(OTHER_TEXT), (OTHER_SHOWN, OTHER_TABLE))

    def test_family(self):
        one, other = View.read(TEXT), KeptView(OTHER_SHOWN, (0, 1, 0, 1, 2))
        self.assertEqual((one.shown, one.table, one.parts), (SHOWN, TABLE, PARTS))
        self.assertEqual((other.table, other.parts), (OTHER_TABLE, OTHER_PARTS))
        self.assertEqual((one.put(2, 1), other.put(1, 1), one.may(4), list(other.reachable(3))), (3, 3, (2,), [3, 1]))
        self.assertEqual(ChainView(one, TableView(OUTER, OUTER_TABLE)), TableView(CHAINED, CHAINED_TABLE))
        both = View.joined(one, other)
        self.assertEqual(both, TableView(JOINED, JOINED_TABLE))
        self.assertEqual(both.tuples, ((0, 0), (0, 1), (1, 0), (1, 1), (2, 0)))
        self.assertEqual(repr(both), "JoinedView(0 2 1 3 4)")
        with self.assertRaises(Clash) as caught:
            View.joined(one, TableView(SHOWN, CROSSED_TABLE))
        self.assertEqual(caught.exception.reason, ("clash", (0, 1, 2)))

    def test_a_view_that_learns(self):
        held = WishView(SHOWN)
        for wish in [(0, 1, 1), (3, 0, 2), (0, 2, None)]:
            held.learn(*wish)
        self.assertEqual(held, TableView(SHOWN, TABLE))
        with self.assertRaises(Clash) as caught:
            held.learn(1, 2, 4)
        self.assertEqual(caught.exception.reason, ("refused", 2, (0, 1, 4)))
        self.assertEqual(held, View.read(TEXT))

    def test_desk(self):
        one, other = LoggedView(SHOWN, TABLE), LoggedView(OTHER_SHOWN, OTHER_TABLE)
        desk = Desk(0, one, other, ChainView(one, TableView(OUTER, OUTER_TABLE)))
        self.assertEqual(list(desk.reachable()), [0, 1, 2, 3])
        self.assertEqual(list(desk.routes(3)),
                         [((0, 1), (1, 1)), ((1, 1), (0, 1)), ((1, 1), (2, 1)), ((2, 1), (1, 1))])
        self.assertEqual(list(desk.routes(4)), [])
        desk.do((2, 1), (1, 1))
        self.assertEqual((desk.state, desk.shown), (3, (1, 1, 1)))
        desk.cell(0).value = 0
        with self.assertRaises(Refused):
            desk.cell(0).value = 2
        desk.state = 4
        self.assertEqual((desk.shown, desk.history, list(desk.reachable())), ((2, 0, 1), (0, 3, 2), [4]))
        desk.undo()
        desk.undo()
        self.assertEqual((desk.state, desk.history), (3, (0,)))
        self.assertEqual((one.log, other.log), ((), ()))


class RectangleTest(unittest.TestCase):
    def test_tables_parts_and_texts(self):
        for view, table, parts, number in [(ROWS, ROWS_TABLE, ((0, 3), (1, 4), (2, 5)), 12),
                                           (COLUMNS, COLUMNS_TABLE, ((0, 1, 2), (3, 4, 5)), 18)]:
            self.assertIsNone(broken(view, table))
            self.assertEqual((permitted(view, table), widest(view)[0]), (number, number))
            self.assertEqual((parts_of(view, table), table_of(view, parts)), (parts, table))
            self.assertEqual(read_table(table_text(view, table)), (view, table))
        self.assertEqual(kept_by(ROWS, ROWS_TABLE), COLUMNS)
        self.assertEqual(kept_by(COLUMNS, COLUMNS_TABLE), ROWS)

    def test_counts(self):
        self.assertEqual([count_tables(ROWS), count_tables(COLUMNS)], [34, 87])
        self.assertEqual([count_full(ROWS), count_full(COLUMNS)], [6, 4])
        self.assertEqual(list(full_tables(ROWS))[0], ROWS_TABLE)
        self.assertEqual(list(full_tables(COLUMNS))[0], COLUMNS_TABLE)

    def test_wishes(self):
        crossed = ((0, 4), (1, 3), (2, 5), (1, 3), (0, 4), (2, 5))
        self.assertEqual(full_with(ROWS, ((0, 1, 4),)), crossed)
        self.assertEqual(ungranted(ROWS, ROWS_TABLE, ((0, 1, 4), (2, 1, 5))), (0,))
        links = ((0, 1, 3), (4, 0, 1), (2, 1, 5))
        self.assertEqual(smallest(ROWS, links), ("table", ROWS_TABLE))
        self.assertEqual(WishView(ROWS, links), KeptView(ROWS, COLUMNS))

    def test_joins(self):
        one, other = (ROWS, ROWS_TABLE), (COLUMNS, COLUMNS_TABLE)
        self.assertIsNone(dependence(one, other))
        self.assertEqual(joined(one, other), ("table", (0, 1, 2, 3, 4, 5), ((0, 1, 2, 3, 4, 5),) * 6))
        self.assertEqual(merged(one, other, 0, mine=3, its=2), 5)
        both = JoinedView(TableView(*one), TableView(*other))
        self.assertEqual(both.tuples, ((0, 0), (0, 1), (0, 2), (1, 0), (1, 1), (1, 2)))
        # The columns and the rows are views of the view that shows both.
        rows = TableView(ROWS, ROWS_TABLE)
        self.assertEqual(ChainView(both, rows), rows)
        self.assertEqual(chain(both.shown, both.table, *other), other)

    def test_desk(self):
        desk = Desk(0, TableView(ROWS, ROWS_TABLE), TableView(COLUMNS, COLUMNS_TABLE))
        self.assertEqual(list(desk.reachable()), [0, 1, 2, 3, 4, 5])
        self.assertEqual(list(desk.routes(5)), [((0, 1), (1, 2)), ((1, 2), (0, 1))])
        desk.cell(1).value = 2
        desk.cell(0).value = 1
        self.assertEqual((desk.state, desk.shown, desk.history), (5, (1, 2), (0, 2)))
        self.assertEqual(list(desk.reachable()), [5, 2, 3, 4, 0, 1])


if __name__ == "__main__":
    unittest.main()
