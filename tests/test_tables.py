import unittest
from itertools import product

from samples import LARGER_VIEWS, NO_VIEWS, ODD_THINGS, SMALL_VIEWS
from samples import calls_are_clean, every_table, first_fault, partitions, written_out
from writebacks.errors import NoTable, NoView
from writebacks.tables import broken, is_table, is_view, permitted

VIEW = (0, 1, 0)
SOUND = ((0, 1), (0, 1), (2, None))
# Writing 1 at state 2 leads to state 1, where writing 0 leads to 0 and not to 2.
UNSOUND = ((0, 1), (0, 1), (2, 1))
NO_TABLES = ODD_THINGS + [
    (),
    SOUND[:2],
    SOUND + ((2, None),),
    SOUND + ((),),
    ((0, 1), (0, 1), (2,)),
    ((0,), (0, 1), (2, None)),
    ((0, 1), (0, 1), (2, None, None)),
    ((0, 1, None), (0, 1, None), (2, None, None)),
    ((), (), ()),
    list(SOUND),
    ([0, 1], [0, 1], [2, None]),
    ((0, 1), (0, 1), [2, None]),
    ((0, 1), None, (2, None)),
    ((0, 1), "01", (2, None)),
    ((0, 1), {0: 0, 1: 1}, (2, None)),
    ((0, 1), 1, (2, None)),
    ((0, True), (0, 1), (2, None)),
    ((False, 1), (0, 1), (2, None)),
    ((0, 1), (0, 1), (2, False)),
    ((0, 3), (0, 1), (2, None)),
    ((0, 1), (0, 1), (-1, None)),
    ((0, 1), (0, 10**13 - 1), (2, None)),
    ((0, 1), (0, "1"), (2, None)),
    ((0, 1), (0, "-"), (2, None)),
    ((0, 1), (0, [1]), (2, None)),
    ((0, 1), (0, (1,)), (2, None)),
    ((0, 1), (0, {}), (2, None)),
    (SOUND,),
]


class ViewTest(unittest.TestCase):
    def test_views(self):
        views = [(0,), (0, 0), (0, 1), (1, 0), (0, 1, 0), (2, 0, 1), (0,) * 9, tuple(range(9)),
                 (8, 7, 6, 5, 4, 3, 2, 1, 0), (1, 0, 0, 0, 0, 0, 0, 0, 1)]
        for view in views + SMALL_VIEWS + LARGER_VIEWS:
            with self.subTest(view):
                self.assertIs(is_view(view), True)

    def test_everything_else(self):
        for thing in NO_VIEWS:
            with self.subTest(repr(thing)[:80]):
                self.assertIs(is_view(thing), False)

    def test_all_short_tuples_of_numbers(self):
        for many in range(5):
            for thing in product(range(-1, 5), repeat=many):
                expected = many > 0 and sorted(set(thing)) == list(range(len(set(thing))))
                self.assertIs(is_view(thing), expected, thing)

    def test_calls_are_clean(self):
        for thing in NO_VIEWS + SMALL_VIEWS:
            calls_are_clean(self, is_view, thing)


class TableTest(unittest.TestCase):
    def test_all_tables_of_small_views(self):
        for view in [(0,), (0, 0), (0, 1), (1, 0), (0, 0, 0), (0, 1, 0)]:
            for table in every_table(view):
                self.assertIs(is_table(view, table), True, (view, table))

    def test_tables_of_nine_states(self):
        view = tuple(range(9))
        self.assertIs(is_table(view, ((8,) * 9,) * 9), True)
        self.assertIs(is_table(view, ((None,) * 9,) * 9), True)
        self.assertIs(is_table(view, ((9,) * 9,) * 9), False)
        self.assertIs(is_table((0,) * 9, ((8,),) * 9), True)
        self.assertIs(is_table((0,) * 9, ((9,),) * 9), False)

    def test_everything_else(self):
        self.assertIs(is_table(VIEW, SOUND), True)
        self.assertIs(is_table(VIEW, UNSOUND), True)
        for thing in NO_TABLES:
            with self.subTest(repr(thing)[:80]):
                self.assertIs(is_table(VIEW, thing), False)

    def test_one_bad_entry_anywhere(self):
        for row, column in product(range(3), range(2)):
            for entry in [True, False, -1, 3, 10**13 - 1, "0", "", [0], (0,), (), {}]:
                rows = [list(one) for one in SOUND]
                rows[row][column] = entry
                thing = tuple(tuple(one) for one in rows)
                self.assertIs(is_table(VIEW, thing), False, thing)

    def test_table_of_another_view(self):
        self.assertIs(is_table((0, 1), SOUND), False)
        self.assertIs(is_table((0, 1, 2), SOUND), False)
        self.assertIs(is_table((0, 0, 0), SOUND), False)
        self.assertIs(is_table((1, 1, 0), SOUND), True)

    def test_no_view(self):
        for thing in NO_VIEWS:
            for table in [SOUND, (), None, thing]:
                with self.subTest(repr(thing)[:80]), self.assertRaises(NoView):
                    is_table(thing, table)

    def test_calls_are_clean(self):
        for thing in NO_TABLES + [SOUND, UNSOUND]:
            calls_are_clean(self, is_table, VIEW, thing)
            calls_are_clean(self, is_table, thing, SOUND)


class BrokenTest(unittest.TestCase):
    def test_example_of_the_document(self):
        self.assertEqual(broken(VIEW, UNSOUND), ("forget", 2, 1, 0))

    def test_sound_tables(self):
        self.assertIsNone(broken(VIEW, SOUND))
        self.assertIsNone(broken((0,), ((0,),)))
        self.assertIsNone(broken((0, 1), ((0, None), (None, 1))))
        for view in SMALL_VIEWS + LARGER_VIEWS:
            for parts in partitions(view):
                self.assertIsNone(broken(view, written_out(view, parts)), (view, parts))

    def test_stay(self):
        self.assertEqual(broken(VIEW, ((2, 1), (0, 1), (2, None))), ("stay", 0))
        self.assertEqual(broken(VIEW, ((0, 1), (0, 2), (1, None))), ("stay", 1))
        self.assertEqual(broken(VIEW, ((0, None), (None, 1), (0, None))), ("stay", 2))

    def test_stay_is_broken_by_a_refusal(self):
        self.assertEqual(broken(VIEW, ((None, None), (None, 1), (2, None))), ("stay", 0))
        self.assertEqual(broken((0,), ((None,),)), ("stay", 0))

    def test_shown(self):
        self.assertEqual(broken(VIEW, ((0, 2), (0, 1), (2, None))), ("shown", 0, 1))
        self.assertEqual(broken(VIEW, ((0, None), (1, 1), (2, 0))), ("shown", 1, 0))
        self.assertEqual(broken((0, 1, 2), ((0, 2, 1), (2, 1, 0), (1, 0, 2))), ("shown", 0, 1))
        self.assertEqual(broken((0, 1, 2), ((0, 1, 1), (0, 1, 0), (1, 0, 2))), ("shown", 0, 2))

    def test_forget(self):
        self.assertEqual(broken((0, 1, 0, 1), ((0, 1), (2, 1), (2, 3), (0, 3))), ("forget", 0, 1, 0))
        self.assertEqual(broken((0, 1, 2), ((0, 1, 2), (0, 1, None), (0, 1, 2))), ("forget", 0, 1, 2))

    def test_forget_where_one_side_is_refused(self):
        # At 0 writing 1 is permitted; from there writing 0 is not.
        self.assertEqual(broken((0, 1), ((0, 1), (None, 1))), ("forget", 0, 1, 0))
        self.assertEqual(broken((0, 1), ((0, None), (0, 1))), ("forget", 1, 0, 1))
        # Writing 2 is refused before the write of 1 and permitted after it.
        table = ((0, 1, None), (0, 1, 2), (None, 1, 2))
        self.assertEqual(broken((0, 1, 2), table), ("forget", 0, 1, 2))

    def test_earlier_rules_come_first(self):
        # State 2 breaks stay; states before it break the other rules.
        self.assertEqual(broken(VIEW, ((0, 2), (2, 1), (0, 1))), ("stay", 2))
        # State 2 breaks shown; state 0 breaks forget.
        self.assertEqual(broken(VIEW, ((0, 1), (None, 1), (2, 0))), ("shown", 2, 1))

    def test_all_tables_of_small_views(self):
        for view in [(0,), (0, 0), (0, 1), (1, 0), (0, 0, 0), (0, 1, 0), (1, 0, 0)]:
            for table in every_table(view):
                expected = first_fault(view, table)
                self.assertEqual(repr(broken(view, table)), repr(expected), (view, table))

    def test_tables_with_one_entry_changed(self):
        for view in [(0, 1, 2), (0, 1, 0, 1), (2, 1, 0, 0), (0, 1, 2, 0, 1, 2)]:
            for parts in partitions(view):
                sound = written_out(view, parts)
                for s, v in product(range(len(view)), range(max(view) + 1)):
                    for entry in [None] + list(range(len(view))):
                        row = sound[s][:v] + (entry,) + sound[s][v + 1:]
                        table = sound[:s] + (row,) + sound[s + 1:]
                        self.assertEqual(repr(broken(view, table)), repr(first_fault(view, table)))

    def test_no_view_comes_before_no_table(self):
        for thing in NO_VIEWS:
            for table in [SOUND, (), None, thing]:
                with self.subTest(repr(thing)[:80]), self.assertRaises(NoView):
                    broken(thing, table)

    def test_no_table(self):
        for thing in NO_TABLES:
            with self.subTest(repr(thing)[:80]), self.assertRaises(NoTable):
                broken(VIEW, thing)

    def test_calls_are_clean(self):
        for thing in NO_TABLES + [SOUND, UNSOUND]:
            calls_are_clean(self, broken, VIEW, thing)
            calls_are_clean(self, broken, thing, thing)


class PermittedTest(unittest.TestCase):
    def test_all_entries(self):
        self.assertEqual(permitted((0, 1), ((0, 1), (0, 1))), 4)
        self.assertEqual(permitted((0,), ((0,),)), 1)
        self.assertEqual(permitted(tuple(range(9)), (tuple(range(9)),) * 9), 81)

    def test_some_entries(self):
        self.assertEqual(permitted(VIEW, SOUND), 5)

    def test_only_the_values_shown(self):
        self.assertEqual(permitted(VIEW, ((0, None), (None, 1), (2, None))), 3)
        self.assertEqual(permitted((0,) * 9, tuple((s,) for s in range(9))), 9)

    def test_unsound_tables_count_too(self):
        self.assertEqual(permitted(VIEW, UNSOUND), 6)
        self.assertEqual(permitted(VIEW, ((None, None),) * 3), 0)
        self.assertEqual(permitted(VIEW, ((0, 0),) * 3), 6)

    def test_all_tables_of_a_view(self):
        for table in every_table(VIEW):
            expected = sum(1 for row in table for entry in row if entry is not None)
            self.assertEqual(repr(permitted(VIEW, table)), repr(expected))

    def test_no_view_comes_before_no_table(self):
        for thing in NO_VIEWS:
            for table in [SOUND, (), None, thing]:
                with self.subTest(repr(thing)[:80]), self.assertRaises(NoView):
                    permitted(thing, table)

    def test_no_table(self):
        for thing in NO_TABLES:
            with self.subTest(repr(thing)[:80]), self.assertRaises(NoTable):
                permitted(VIEW, thing)

    def test_calls_are_clean(self):
        for thing in NO_TABLES + [SOUND, UNSOUND]:
            calls_are_clean(self, permitted, VIEW, thing)
            calls_are_clean(self, permitted, thing, thing)


if __name__ == "__main__":
    unittest.main()
