import inspect
import unittest
from math import factorial

from samples import LARGER_VIEWS, NO_VIEWS, SMALL_VIEWS
from samples import calls_are_clean, every_table, partitions, sound_tables, written_out
from writebacks.counts import count_full, count_tables, full_tables, tables, widest
from writebacks.errors import NoView, TooLarge
from writebacks.tables import broken, permitted

VIEWS = SMALL_VIEWS + LARGER_VIEWS

NINE_STATES = [
    (0,) * 9,
    tuple(range(9)),
    tuple(range(8, -1, -1)),
    (0, 1, 2, 0, 1, 2, 0, 1, 2),
    (2, 2, 0, 1, 1, 0, 0, 2, 1),
    (0, 1, 0, 1, 0, 1, 0, 1, 0),
    (1, 1, 1, 1, 1, 1, 1, 1, 0),
    (0, 1, 2, 3, 4, 5, 6, 7, 0),
    (3, 0, 1, 0, 2, 2, 1, 0, 0),
]


def permits_all(table):
    return all(entry is not None for row in table for entry in row)


def full_ones(view):
    """All sound tables that permit every write, in ascending order of their partitions."""
    many = max(view) + 1
    return [written_out(view, parts) for parts in sorted(partitions(view))
            if all(len(part) == many for part in parts)]


def listed(generator):
    return lambda *args: list(generator(*args))


class CountTablesTest(unittest.TestCase):
    def test_example_of_the_document(self):
        self.assertEqual(count_tables((0, 1, 0)), 3)

    def test_single_cases(self):
        self.assertEqual(count_tables((0,)), 1)
        self.assertEqual(count_tables((0, 0)), 1)
        self.assertEqual(count_tables((1, 0)), 2)
        self.assertEqual(count_tables((0, 1, 2)), 5)
        self.assertEqual(count_tables((0, 1, 1, 0)), 7)

    def test_sound_tables_among_all_tables(self):
        for view in [(0,), (0, 0), (0, 1), (1, 0), (0, 0, 0), (0, 1, 0), (1, 0, 0)]:
            sound = [table for table in every_table(view) if broken(view, table) is None]
            self.assertEqual(count_tables(view), len(sound))

    def test_tables_listed_one_by_one(self):
        for view in VIEWS:
            self.assertEqual(count_tables(view), len(partitions(view)), view)
            self.assertEqual(count_tables(view), len(list(tables(view))), view)

    def test_nine_states(self):
        self.assertEqual(count_tables((0,) * 9), 1)
        # The number of ways to put nine things into groups.
        self.assertEqual(count_tables(tuple(range(9))), 21147)
        for view in NINE_STATES:
            self.assertEqual(count_tables(view), len(partitions(view)), view)

    def test_no_view(self):
        for thing in NO_VIEWS:
            with self.subTest(repr(thing)[:80]), self.assertRaises(NoView):
                count_tables(thing)

    def test_calls_are_clean(self):
        for thing in NO_VIEWS + VIEWS + NINE_STATES:
            calls_are_clean(self, count_tables, thing)


class CountFullTest(unittest.TestCase):
    def test_single_cases(self):
        self.assertEqual(count_full((0, 1, 1, 0)), 2)
        self.assertEqual(count_full((0, 1, 0)), 0)
        self.assertEqual(count_full((0,)), 1)
        self.assertEqual(count_full((0, 0, 0)), 1)
        self.assertEqual(count_full((2, 0, 1)), 1)
        self.assertEqual(count_full((0, 1, 2, 0, 1, 2)), 4)

    def test_tables_listed_one_by_one(self):
        for view in VIEWS:
            full = [table for table in sound_tables(view) if permits_all(table)]
            self.assertEqual(count_full(view), len(full), view)

    def test_nine_states(self):
        for view in NINE_STATES:
            self.assertEqual(count_full(view), len(full_ones(view)), view)
        self.assertEqual(count_full((0, 1, 2, 0, 1, 2, 0, 1, 2)), 36)
        self.assertEqual(count_full((0, 1, 2, 0, 1, 2, 0, 1, 1)), 0)
        self.assertEqual(count_full((0,) * 9), 1)
        self.assertEqual(count_full(tuple(range(9))), 1)

    def test_eight_states(self):
        self.assertEqual(count_full((0, 0, 0, 0, 1, 1, 1, 1)), 24)
        self.assertEqual(count_full((0, 1, 2, 3, 3, 2, 1, 0)), 8)
        self.assertEqual(count_full((0, 0, 0, 1, 1, 1, 1, 1)), 0)

    def test_the_last_block_alone_has_another_size(self):
        self.assertEqual(count_full((0, 0, 1, 1, 2)), 0)
        self.assertEqual(count_full((0, 1, 2, 2)), 0)
        self.assertEqual(count_full((0, 0, 1, 2)), 0)

    def test_sizes_of_blocks_tell_whether_there_is_one(self):
        for view in VIEWS + NINE_STATES:
            sizes = [view.count(value) for value in range(max(view) + 1)]
            expected = factorial(sizes[0]) ** max(view) if len(set(sizes)) == 1 else 0
            self.assertEqual(count_full(view), expected, view)
            self.assertEqual(len(list(full_tables(view))), expected, view)

    def test_no_view(self):
        for thing in NO_VIEWS:
            with self.subTest(repr(thing)[:80]), self.assertRaises(NoView):
                count_full(thing)

    def test_calls_are_clean(self):
        for thing in NO_VIEWS + VIEWS + NINE_STATES:
            calls_are_clean(self, count_full, thing)


class WidestTest(unittest.TestCase):
    def check(self, view):
        result = widest(view)
        self.assertIs(type(result), tuple)
        number, table = result
        self.assertIsNone(broken(view, table), view)
        self.assertEqual(permitted(view, table), number, view)
        sizes = [view.count(value) for value in range(max(view) + 1)]
        shown_so_often = [sum(1 for size in sizes if size >= times) for times in range(1, len(view) + 1)]
        self.assertEqual(number, sum(many * many for many in shown_so_often), view)

    def test_example_of_the_document(self):
        self.assertEqual(widest((0, 1, 0))[0], 5)

    def test_single_cases(self):
        self.assertEqual(widest((0,)), (1, ((0,),)))
        self.assertEqual(widest((0, 0)), (2, ((0,), (1,))))
        self.assertEqual(widest((1, 0)), (4, ((1, 0), (1, 0))))
        self.assertEqual(widest((0, 1, 1, 0))[0], 8)
        self.assertEqual(widest((0, 1, 2, 0, 0))[0], 11)

    def test_number_and_table(self):
        for view in VIEWS + NINE_STATES:
            self.check(view)

    def test_no_sound_table_permits_more(self):
        for view in VIEWS:
            most = max(sum(len(part) ** 2 for part in parts) for parts in partitions(view))
            self.assertEqual(repr(widest(view)[0]), repr(most), view)

    def test_nine_states(self):
        self.assertEqual(widest((0,) * 9)[0], 9)
        self.assertEqual(widest(tuple(range(9)))[0], 81)
        self.assertEqual(widest((0, 1, 2, 0, 1, 2, 0, 1, 2))[0], 27)
        self.assertEqual(widest((0, 1, 0, 1, 0, 1, 0, 1, 0))[0], 17)
        self.assertEqual(widest((0, 1, 2, 3, 4, 5, 6, 7, 0))[0], 65)

    def test_no_view(self):
        for thing in NO_VIEWS:
            with self.subTest(repr(thing)[:80]), self.assertRaises(NoView):
                widest(thing)

    def test_calls_are_clean(self):
        for thing in NO_VIEWS + VIEWS + NINE_STATES:
            calls_are_clean(self, widest, thing)


class TablesTest(unittest.TestCase):
    def test_is_a_generator(self):
        self.assertTrue(inspect.isgenerator(tables((0, 1, 0))))

    def test_single_cases(self):
        self.assertEqual(list(tables((0,))), [((0,),)])
        self.assertEqual(list(tables((0, 0))), [((0,), (1,))])
        self.assertEqual(list(tables((0, 1))), [((0, None), (None, 1)), ((0, 1), (0, 1))])
        # Their partitions are ((0,), (1,), (2,)), then ((0,), (1, 2)), then ((0, 1), (2,)).
        self.assertEqual(list(tables((0, 1, 0))), [
            ((0, None), (None, 1), (2, None)),
            ((0, None), (2, 1), (2, 1)),
            ((0, 1), (0, 1), (2, None)),
        ])

    def test_a_shorter_part_comes_ahead_of_a_longer_one_that_begins_with_it(self):
        self.assertEqual(list(tables((0, 1, 2))), [
            ((0, None, None), (None, 1, None), (None, None, 2)),
            ((0, None, None), (None, 1, 2), (None, 1, 2)),
            ((0, 1, None), (0, 1, None), (None, None, 2)),
            ((0, 1, 2), (0, 1, 2), (0, 1, 2)),
            ((0, None, 2), (None, 1, None), (0, None, 2)),
        ])

    def test_all_tables_in_the_order_of_their_partitions(self):
        for view in VIEWS + [(0, 1, 2, 3, 4), (5, 4, 3, 2, 1, 0), (0, 0, 1, 1, 2, 2), (0,) * 6]:
            self.assertEqual(list(tables(view)), sound_tables(view), view)

    def test_each_table_once(self):
        for view in VIEWS:
            found = list(tables(view))
            self.assertEqual(len(set(found)), len(found))

    def test_no_view(self):
        for thing in NO_VIEWS:
            with self.subTest(repr(thing)[:80]), self.assertRaises(NoView):
                next(tables(thing))

    def test_too_large(self):
        for view in NINE_STATES + [(0,) * 7, tuple(range(7)), (0, 1, 0, 1, 0, 1, 0), (0,) * 8]:
            with self.subTest(view), self.assertRaises(TooLarge):
                next(tables(view))

    def test_six_states_are_not_too_large(self):
        self.assertEqual(len(list(tables(tuple(range(6))))), 203)
        self.assertEqual(len(list(tables((0,) * 6))), 1)

    def test_no_view_comes_before_too_large(self):
        for thing in [(0,) * 10, (1,) * 7, tuple(range(10)), (0, True) * 4, [0] * 7]:
            with self.subTest(thing), self.assertRaises(NoView):
                next(tables(thing))

    def test_calls_are_clean(self):
        for thing in NO_VIEWS + VIEWS + NINE_STATES:
            calls_are_clean(self, listed(tables), thing)


class FullTablesTest(unittest.TestCase):
    def test_is_a_generator(self):
        self.assertTrue(inspect.isgenerator(full_tables((0, 1, 0))))

    def test_example_of_the_document(self):
        expected = [((0, 1), (0, 1), (3, 2), (3, 2)), ((0, 2), (3, 1), (0, 2), (3, 1))]
        self.assertEqual(list(full_tables((0, 1, 1, 0))), expected)

    def test_single_cases(self):
        self.assertEqual(list(full_tables((0,))), [((0,),)])
        self.assertEqual(list(full_tables((0, 0))), [((0,), (1,))])
        self.assertEqual(list(full_tables((1, 0, 2))), [((1, 0, 2),) * 3])

    def test_none(self):
        for view in [(0, 1, 0), (0, 0, 1), (0, 1, 2, 0), (0, 0, 1, 1, 2), (0, 1, 0, 1, 0, 1, 0, 1, 0)]:
            self.assertEqual(list(full_tables(view)), [], view)

    def test_those_of_all_sound_tables_that_permit_every_write(self):
        for view in VIEWS + [(0, 1, 0, 1, 0, 1), (2, 1, 0, 0, 1, 2), (0, 0, 0, 1, 1, 1)]:
            full = [table for table in sound_tables(view) if permits_all(table)]
            self.assertEqual(list(full_tables(view)), full, view)

    def test_eight_and_nine_states(self):
        for view in NINE_STATES + [(0, 1, 0, 1, 1, 0, 1, 0), (0, 1, 2, 3, 3, 2, 1, 0), (0, 1, 2, 3, 4, 5, 6, 7)]:
            self.assertEqual(list(full_tables(view)), full_ones(view), view)

    def test_no_view(self):
        for thing in NO_VIEWS:
            with self.subTest(repr(thing)[:80]), self.assertRaises(NoView):
                next(full_tables(thing))

    def test_calls_are_clean(self):
        for thing in NO_VIEWS + VIEWS + NINE_STATES:
            calls_are_clean(self, listed(full_tables), thing)


if __name__ == "__main__":
    unittest.main()
