import unittest
from itertools import permutations, product

from samples import LARGER_VIEWS, NO_VIEWS, ODD_THINGS, SMALL_VIEWS
from samples import all_groupings, calls_are_clean, every_table, lets_apart, partitions, written_out
from writebacks.errors import Alike, NoParts, NotSound, NoTable, NoView
from writebacks.parts import is_parts, kept_by, parts_of, table_keeping, table_of
from writebacks.tables import broken, is_table, is_view

VIEW = (0, 1, 0, 1)
PARTS = ((0, 1), (2, 3))
TABLE = ((0, 1), (0, 1), (2, 3), (2, 3))
KEPT = (0, 0, 1, 1)

NO_PARTS = ODD_THINGS + [
    (),
    # not sorted
    ((2, 3), (0, 1)),
    ((1, 0), (2, 3)),
    ((0, 1), (3, 2)),
    # an empty part
    ((), (0, 1), (2, 3)),
    ((0, 1), (), (2, 3)),
    ((0, 1), (2, 3), ()),
    # a state is left out
    ((0, 1), (2,)),
    ((1,), (2, 3)),
    ((0, 1),),
    # a state twice
    ((0, 1), (0, 1), (2, 3)),
    ((0, 1), (1, 2), (3,)),
    ((0, 1), (2, 3), (2, 3)),
    ((0, 0, 1), (2, 3)),
    ((0,), (0,), (1,), (2,), (3,)),
    # no state
    ((0, 1), (2, 3), (4,)),
    ((0, 1), (2, 3, 4)),
    ((-1,), (0, 1), (2, 3)),
    ((-1, 1), (2, 3)),
    ((0, 1), (2, 3), (10**13 - 1,)),
    # a bool in the place of a state
    ((0, True), (2, 3)),
    ((False, 1), (2, 3)),
    ((False,), (True,), (2, 3)),
    # two states of a part show the same value
    ((0, 2), (1, 3)),
    ((0, 1, 2), (3,)),
    ((0, 1, 2, 3),),
    ((0,), (1, 3), (2,)),
    # lists for tuples
    [(0, 1), (2, 3)],
    ([0, 1], [2, 3]),
    ((0, 1), [2, 3]),
    # parts and states of other kinds
    ((0, 1), 2, 3),
    ((0, 1), (2, 3), None),
    ((0, 1), (2, "3")),
    ((0, 1), ("2",), (3,)),
    ((0, 1), "23"),
    ((0, 1), (2, None), (3,)),
    ((0, 1), (2, (3,))),
    ((0, 1), {2: True, 3: True}),
    (PARTS,),
    TABLE,
    VIEW,
]
NO_TABLES = ODD_THINGS + [
    (), TABLE[:3], TABLE + ((2, 3),), list(TABLE), ([0, 1],) + TABLE[1:], ((0, True),) + TABLE[1:],
    ((0, 4),) + TABLE[1:], ((0, -1),) + TABLE[1:], ((0,),) + TABLE[1:], ((0, 1, None),) + TABLE[1:], PARTS,
]
UNSOUND = [
    ((2, 1), (0, 1), (2, 3), (2, 3)),
    ((None, None), (None, 1), (2, None), (None, 3)),
    ((0, 2), (0, 1), (2, 3), (2, 3)),
    ((0, 1), (2, 1), (2, 3), (0, 3)),
    ((0, 1), (None, 1), (2, 3), (2, 3)),
    ((0, None), (0, 1), (2, 3), (2, 3)),
]


class IsPartsTest(unittest.TestCase):
    def test_partitions(self):
        self.assertIs(is_parts(VIEW, PARTS), True)
        self.assertIs(is_parts(VIEW, ((0,), (1,), (2,), (3,))), True)
        self.assertIs(is_parts(VIEW, ((0, 3), (1, 2))), True)
        self.assertIs(is_parts((0,), ((0,),)), True)
        self.assertIs(is_parts(tuple(range(9)), (tuple(range(9)),)), True)
        self.assertIs(is_parts((0,) * 9, tuple((s,) for s in range(9))), True)

    def test_everything_else(self):
        for thing in NO_PARTS:
            with self.subTest(repr(thing)[:80]):
                self.assertIs(is_parts(VIEW, thing), False)

    def test_all_groupings_of_small_views(self):
        for view in SMALL_VIEWS + LARGER_VIEWS:
            for groups in all_groupings(view):
                self.assertIs(is_parts(view, groups), lets_apart(view, groups), (view, groups))

    def test_other_orders(self):
        for view in [(0,), (0, 1), (0, 1, 0), (0, 1, 2)]:
            for groups in partitions(view):
                for shuffled in permutations(groups):
                    self.assertIs(is_parts(view, shuffled), shuffled == groups)
                turned = tuple(tuple(reversed(part)) for part in groups)
                self.assertIs(is_parts(view, turned), turned == groups)

    def test_partition_of_another_view(self):
        self.assertIs(is_parts((0, 1, 0), PARTS), False)
        self.assertIs(is_parts((0, 1, 0, 1, 0), PARTS), False)
        self.assertIs(is_parts((0, 0, 1, 1), PARTS), False)
        self.assertIs(is_parts((1, 0, 1, 0), PARTS), True)

    def test_no_view(self):
        for thing in NO_VIEWS:
            for parts in [PARTS, (), None, thing]:
                with self.subTest(repr(thing)[:80]), self.assertRaises(NoView):
                    is_parts(thing, parts)

    def test_calls_are_clean(self):
        for thing in NO_PARTS + [PARTS]:
            calls_are_clean(self, is_parts, VIEW, thing)
            calls_are_clean(self, is_parts, thing, PARTS)


class PartsAndTablesTest(unittest.TestCase):
    def test_single_cases(self):
        self.assertEqual(table_of(VIEW, PARTS), TABLE)
        self.assertEqual(parts_of(VIEW, TABLE), PARTS)
        self.assertEqual(table_of((0, 1, 0), ((0, 1), (2,))), ((0, 1), (0, 1), (2, None)))
        self.assertEqual(parts_of((0, 1, 0), ((0, None), (2, 1), (2, 1))), ((0,), (1, 2)))
        self.assertEqual(table_of((0,), ((0,),)), ((0,),))
        self.assertEqual(parts_of((0,), ((0,),)), ((0,),))

    def test_parts_are_sorted(self):
        # The entries of a row stand in the order of the values, not of the states.
        self.assertEqual(parts_of((2, 1, 0), ((2, 1, 0),) * 3), ((0, 1, 2),))
        self.assertEqual(parts_of((1, 0, 1, 0), ((3, 0), (1, 2), (1, 2), (3, 0))), ((0, 3), (1, 2)))

    def test_nine_states(self):
        view = tuple(range(8, -1, -1))
        self.assertEqual(table_of(view, (tuple(range(9)),)), (view,) * 9)
        self.assertEqual(parts_of(view, (view,) * 9), (tuple(range(9)),))
        singles = tuple((s,) for s in range(9))
        self.assertEqual(table_of((0,) * 9, singles), singles)
        self.assertEqual(parts_of((0,) * 9, singles), singles)

    def test_each_leads_back_to_the_other(self):
        for view in SMALL_VIEWS + LARGER_VIEWS:
            for parts in partitions(view):
                table = table_of(view, parts)
                self.assertEqual(repr(table), repr(written_out(view, parts)))
                self.assertIs(is_table(view, table), True)
                self.assertIsNone(broken(view, table))
                self.assertEqual(repr(parts_of(view, table)), repr(parts))

    def test_each_sound_table_is_the_table_of_one_partition(self):
        for view in [(0,), (0, 0), (0, 1), (1, 0), (0, 0, 0), (0, 1, 0), (1, 0, 0)]:
            sound = [table for table in every_table(view) if broken(view, table) is None]
            tables = [table_of(view, parts) for parts in partitions(view)]
            self.assertEqual(len(sound), len(tables))
            self.assertEqual(set(sound), set(tables))
            for table in sound:
                self.assertEqual(table_of(view, parts_of(view, table)), table)

    def test_only_the_last_write_counts_and_the_old_value_leads_back(self):
        for view in SMALL_VIEWS:
            for parts in partitions(view):
                table = table_of(view, parts)
                for s, v in product(range(len(view)), range(max(view) + 1)):
                    result = table[s][v]
                    if result is not None:
                        self.assertEqual(table[result], table[s])
                        self.assertEqual(table[result][view[s]], s)

    def test_errors_of_parts_of(self):
        for thing in NO_VIEWS:
            for table in [TABLE, UNSOUND[0], (), None]:
                with self.subTest(repr(thing)[:80]), self.assertRaises(NoView):
                    parts_of(thing, table)
        for thing in NO_TABLES:
            with self.subTest(repr(thing)[:80]), self.assertRaises(NoTable):
                parts_of(VIEW, thing)
        for table in UNSOUND:
            with self.subTest(table), self.assertRaises(NotSound):
                parts_of(VIEW, table)

    def test_errors_of_table_of(self):
        for thing in NO_VIEWS:
            for parts in [PARTS, (), None, thing]:
                with self.subTest(repr(thing)[:80]), self.assertRaises(NoView):
                    table_of(thing, parts)
        for thing in NO_PARTS:
            with self.subTest(repr(thing)[:80]), self.assertRaises(NoParts):
                table_of(VIEW, thing)

    def test_calls_are_clean(self):
        for thing in NO_PARTS + [PARTS]:
            calls_are_clean(self, table_of, VIEW, thing)
            calls_are_clean(self, table_of, thing, thing)
        for thing in NO_TABLES + UNSOUND + [TABLE]:
            calls_are_clean(self, parts_of, VIEW, thing)
            calls_are_clean(self, parts_of, thing, thing)


class KeptByTest(unittest.TestCase):
    def test_single_cases(self):
        self.assertEqual(kept_by(VIEW, TABLE), KEPT)
        self.assertEqual(kept_by((0, 1, 0), ((0, None), (2, 1), (2, 1))), (0, 1, 1))
        self.assertEqual(kept_by(VIEW, ((0, 3), (2, 1), (2, 1), (0, 3))), (0, 1, 1, 0))
        self.assertEqual(kept_by((0,) * 9, tuple((s,) for s in range(9))), tuple(range(9)))
        self.assertEqual(kept_by(tuple(range(9)), (tuple(range(9)),) * 9), (0,) * 9)

    def test_positions_of_the_parts(self):
        for view in SMALL_VIEWS + LARGER_VIEWS:
            for parts in partitions(view):
                table = written_out(view, parts)
                kept = kept_by(view, table)
                self.assertIs(is_view(kept), True)
                for s in range(len(view)):
                    self.assertIn(s, parts[kept[s]])
                self.assertEqual(table_keeping(view, kept), table)

    def test_errors(self):
        for thing in NO_VIEWS:
            for table in [TABLE, UNSOUND[0], (), None]:
                with self.subTest(repr(thing)[:80]), self.assertRaises(NoView):
                    kept_by(thing, table)
        for thing in NO_TABLES:
            with self.subTest(repr(thing)[:80]), self.assertRaises(NoTable):
                kept_by(VIEW, thing)
        for table in UNSOUND:
            with self.subTest(table), self.assertRaises(NotSound):
                kept_by(VIEW, table)

    def test_calls_are_clean(self):
        for thing in NO_TABLES + UNSOUND + [TABLE]:
            calls_are_clean(self, kept_by, VIEW, thing)
            calls_are_clean(self, kept_by, thing, thing)


class TableKeepingTest(unittest.TestCase):
    def test_single_cases(self):
        self.assertEqual(table_keeping(VIEW, KEPT), TABLE)
        self.assertEqual(table_keeping((0, 1, 0), (0, 0, 1)), ((0, 1), (0, 1), (2, None)))
        self.assertEqual(table_keeping((0,), (0,)), ((0,),))
        self.assertEqual(table_keeping((0, 1), (0, 1)), ((0, None), (None, 1)))
        self.assertEqual(table_keeping(tuple(range(9)), (0,) * 9), (tuple(range(9)),) * 9)
        self.assertEqual(table_keeping((0,) * 9, tuple(range(9))), tuple((s,) for s in range(9)))

    def test_other_numbers_for_the_same_blocks(self):
        self.assertEqual(table_keeping(VIEW, (1, 1, 0, 0)), TABLE)
        for view in SMALL_VIEWS:
            for parts in partitions(view):
                kept = kept_by(view, written_out(view, parts))
                for numbers in permutations(range(len(parts))):
                    renumbered = tuple(numbers[value] for value in kept)
                    self.assertEqual(table_keeping(view, renumbered), written_out(view, parts))

    def test_all_pairs_of_small_views(self):
        for view, kept in product(SMALL_VIEWS, repeat=2):
            if len(view) != len(kept):
                with self.assertRaises(NoView):
                    table_keeping(view, kept)
            elif len(set(zip(view, kept))) < len(view):
                with self.assertRaises(Alike):
                    table_keeping(view, kept)
            else:
                table = table_keeping(view, kept)
                self.assertIsNone(broken(view, table))
                for s, t in product(range(len(view)), repeat=2):
                    self.assertEqual(t in table[s], kept[s] == kept[t])

    def test_alike(self):
        for view, kept in [(VIEW, VIEW), ((0, 0), (0, 0)), ((0, 1, 0), (1, 0, 1)), ((0,) * 9, (0,) * 8 + (1,))]:
            with self.subTest(view), self.assertRaises(Alike):
                table_keeping(view, kept)

    def test_no_view(self):
        for thing in NO_VIEWS:
            for kept in [KEPT, VIEW, None, thing]:
                with self.subTest(repr(thing)[:80]), self.assertRaises(NoView):
                    table_keeping(thing, kept)
            with self.subTest(repr(thing)[:80]), self.assertRaises(NoView):
                table_keeping(VIEW, thing)

    def test_another_number_of_states(self):
        # Also where states agree in both views.
        for view, kept in [((0, 1), (0, 1, 2)), ((0, 1, 2), (0, 0)), ((0, 0), (0, 0, 0)), ((0, 0, 0), (0, 0))]:
            with self.subTest(view), self.assertRaises(NoView):
                table_keeping(view, kept)

    def test_bool_in_the_place_of_a_number(self):
        for kept in [(0, 0, True, True), (False, False, 1, 1), (0, 0, 1, True)]:
            with self.subTest(kept), self.assertRaises(NoView):
                table_keeping(VIEW, kept)

    def test_calls_are_clean(self):
        for thing in NO_VIEWS + SMALL_VIEWS:
            calls_are_clean(self, table_keeping, VIEW, thing)
            calls_are_clean(self, table_keeping, thing, KEPT)


if __name__ == "__main__":
    unittest.main()
