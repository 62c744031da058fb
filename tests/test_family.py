import unittest
from itertools import permutations, product

from samples import LARGER_VIEWS, NO_NUMBERS, NO_VIEW_OBJECTS, NO_VIEWS, ODD_THINGS, ORDERLY_VIEWS, SMALL_VIEWS
from samples import calls_are_clean, first_walk, partitions, sound_tables, unfit_views, written_out
from writebacks.errors import Alike, Clash, NoState, NoTable, NoText, NotSound, NoValue, NoView, NoViews, Refused
from writebacks.family import ChainView, JoinedView, KeptView, LoggedView, TableView, View, WishView
from writebacks.joins import chain, joined
from writebacks.parts import table_keeping
from writebacks.texts import table_text

VIEW = (0, 1, 0)
PARTS = ((0, 1), (2,))
TABLE = ((0, 1), (0, 1), (2, None))
UNSOUND = ((0, 1), (0, 1), (2, 1))
TEXT = "view 0 1 0\n0: 0 1\n1: 0 1\n2: 2 -\n"

NO_TABLES = ODD_THINGS + [
    (), TABLE[:2], list(TABLE), ((0, True),) + TABLE[1:], ((0, 3),) + TABLE[1:], ((0,),) * 3, TEXT,
]
CLASSES = [View, TableView, KeptView, LoggedView, ChainView, JoinedView, WishView]

NOT_SOUND = [UNSOUND, ((0, 2), (0, 1), (2, None)), ((2, 1), (0, 1), (2, None)), ((None, None),) * 3]


def narrow(view):
    """The table that permits only writing the value that is shown."""
    return tuple(tuple(s if v == number else None for v in range(max(view) + 1)) for s, number in enumerate(view))


def kept(view, parts):
    return tuple([s in part for part in parts].index(True) for s in range(len(view)))


def all_kinds(view, parts):
    """View objects of all classes that have the view and the table of the partition."""
    table = written_out(view, parts)
    many = range(max(view) + 1)
    first = TableView(view, table)
    found = [first, LoggedView(view, table), KeptView(view, kept(view, parts)), View.read(table_text(view, table)),
             JoinedView(first), JoinedView(first, first), JoinedView(View(view), first, View(view), first),
             ChainView(first, TableView(tuple(many), (tuple(many),) * len(many)))]
    links = tuple((s, view[t], t) for part in parts for s in part for t in part)
    if len(links) <= 20:
        found += [WishView(view, links), learned(view, links)]
    if table == narrow(view):
        found += [View(view), WishView(view)]
    return found


def learned(view, wishes):
    held = WishView(view)
    for wish in wishes:
        held.learn(*wish)
    return held


def shown_and_table(held):
    return (held.shown, held.table)


class ViewTest(unittest.TestCase):
    def test_permits_only_the_value_that_is_shown(self):
        for view in SMALL_VIEWS + LARGER_VIEWS:
            held = View(view)
            self.assertEqual(repr(held.shown), repr(view))
            self.assertEqual(repr(held.table), repr(narrow(view)))
            self.assertEqual(repr(held.parts), repr(tuple((s,) for s in range(len(view)))))

    def test_nine_states(self):
        self.assertEqual(View((0,) * 9).table, tuple((s,) for s in range(9)))
        self.assertEqual(View(tuple(range(9))).parts, tuple((s,) for s in range(9)))

    def test_limit(self):
        for held in CLASSES + [View((0,)), WishView((0,))]:
            self.assertEqual(repr(held.LIMIT), "9")
        View((0,) * View.LIMIT)
        with self.assertRaises(NoView):
            View((0,) * (View.LIMIT + 1))

    def test_no_view(self):
        for thing in NO_VIEWS + [View((0,)), View]:
            with self.assertRaises(NoView):
                View(thing)

    def test_all_kinds_have_view_table_and_partition(self):
        for view in ORDERLY_VIEWS + LARGER_VIEWS:
            for parts in partitions(view):
                for held in all_kinds(view, parts):
                    self.assertIsInstance(held, View)
                    self.assertEqual(repr(held.shown), repr(view))
                    self.assertEqual(repr(held.table), repr(written_out(view, parts)))
                    self.assertEqual(repr(held.parts), repr(parts))

    def test_methods_at_every_state_and_value(self):
        for view in ORDERLY_VIEWS + LARGER_VIEWS[:2]:
            for parts in partitions(view):
                for held in all_kinds(view, parts):
                    for part in parts:
                        for s in part:
                            self.check_state(held, view, part, s)

    def check_state(self, held, view, part, s):
        self.assertEqual(repr(held.value_at(s)), repr(view[s]))
        self.assertEqual(repr(held.may(s)), repr(tuple(sorted(view[t] for t in part))))
        self.assertEqual(repr(list(held.reachable(s))), repr([s] + [t for t in part if t != s]))
        for v in range(max(view) + 1):
            found = [t for t in part if view[t] == v]
            if found:
                self.assertEqual(repr(held.put(s, v)), repr(found[0]))
            else:
                with self.assertRaises(Refused):
                    held.put(s, v)

    def test_reachable_is_in_ascending_order_whatever_the_states_show(self):
        held = TableView((2, 1, 0, 0), ((2, 1, 0), (2, 1, 0), (2, 1, 0), (3, None, None)))
        self.assertEqual([list(held.reachable(s)) for s in range(4)], [[0, 1, 2], [1, 0, 2], [2, 0, 1], [3]])
        self.assertEqual(held.may(0), (0, 1, 2))
        self.assertEqual(held.may(3), (0,))

    def test_no_state(self):
        for held in all_kinds(VIEW, PARTS):
            for thing in NO_NUMBERS + [3, -3, 2.0]:
                for value in [0, 1, 2, None, thing]:
                    with self.assertRaises(NoState):
                        held.put(thing, value)
                with self.assertRaises(NoState):
                    held.value_at(thing)
                with self.assertRaises(NoState):
                    held.may(thing)
                with self.assertRaises(NoState):
                    list(held.reachable(thing))
                with self.assertRaises(NoState):
                    next(iter(held.reachable(thing)))

    def test_no_value(self):
        for held in all_kinds(VIEW, PARTS):
            for thing in NO_NUMBERS + [2, -2, 1.0]:
                for s in range(3):
                    with self.assertRaises(NoValue):
                        held.put(s, thing)

    def test_refused(self):
        for held in all_kinds(VIEW, PARTS):
            with self.assertRaises(Refused):
                held.put(2, 1)
            self.assertEqual(held.put(2, 0), 2)

    def test_calls_change_nothing(self):
        for held in all_kinds(VIEW, PARTS):
            before = repr((held.shown, held.table, held.parts))
            for call in [lambda: held.put(0, 1), lambda: held.put(2, 1), lambda: held.put(2, 2), lambda: held.put(3, 0),
                         lambda: held.may(0), lambda: held.may(3), lambda: held.value_at(1), lambda: held.value_at(3),
                         lambda: list(held.reachable(0)), lambda: list(held.reachable(3)), lambda: repr(held),
                         lambda: held == held]:
                first = self.told(call)
                self.assertEqual(self.told(call), first)
                self.assertEqual(repr((held.shown, held.table, held.parts)), before)

    def told(self, call):
        try:
            return repr(call())
        except (NoState, NoValue, Refused) as error:
            return type(error).__name__

    def test_properties_cannot_be_assigned(self):
        held = View(VIEW)
        for name in ["shown", "table", "parts"]:
            with self.assertRaises(AttributeError):
                setattr(held, name, VIEW)


class EqualityTest(unittest.TestCase):
    def test_objects_of_all_classes_with_the_same_table(self):
        for view in ORDERLY_VIEWS:
            for parts in partitions(view):
                for one, other in product(all_kinds(view, parts), repeat=2):
                    self.assertTrue(one == other)
                    self.assertFalse(one != other)

    def test_objects_of_all_classes_with_other_tables_or_views(self):
        views = [(0, 1, 0), (1, 0, 1), (0, 0, 1), (0, 1)]
        groups = [all_kinds(view, parts) for view in views for parts in partitions(view)]
        for some, others in permutations(groups, 2):
            for one, other in product(some, others):
                self.assertFalse(one == other)
                self.assertTrue(one != other)

    def test_things_of_other_kinds(self):
        class Alike:
            shown, table, parts = VIEW, TABLE, PARTS

            def __eq__(self, other):
                return True

        for held in all_kinds(VIEW, PARTS):
            for thing in NO_VIEW_OBJECTS + [VIEW, TABLE, (VIEW, TABLE), PARTS, TEXT, repr(held), View, Alike()]:
                self.assertIs(held == thing, False)
                self.assertIs(held != thing, True)

    def test_a_view_that_learns(self):
        held = WishView(VIEW)
        self.assertTrue(held == View(VIEW))
        held.learn(0, 1, 1)
        self.assertFalse(held == View(VIEW))
        self.assertTrue(held == TableView(VIEW, TABLE))


class ReprTest(unittest.TestCase):
    def test_class_name_and_shown_values(self):
        self.assertEqual(repr(KeptView((0, 1, 1), (0, 0, 1))), "KeptView(0 1 1)")
        self.assertEqual(repr(View((0,))), "View(0)")
        self.assertEqual(repr(View(tuple(range(9)))), "View(0 1 2 3 4 5 6 7 8)")
        self.assertEqual(repr(TableView(VIEW, TABLE)), "TableView(0 1 0)")
        self.assertEqual(repr(LoggedView(VIEW, TABLE)), "LoggedView(0 1 0)")
        self.assertEqual(repr(WishView(VIEW, ((0, 1, 1),))), "WishView(0 1 0)")
        self.assertEqual(repr(ChainView(View((1, 0, 2)), View((0, 1, 0)))), "ChainView(1 0 0)")
        self.assertEqual(repr(JoinedView(View((1, 0, 0)), View((0, 1, 0)))), "JoinedView(2 1 0)")
        self.assertEqual(repr(View.read(TEXT)), "TableView(0 1 0)")
        self.assertEqual(repr(View.joined(View(VIEW))), "JoinedView(0 1 0)")

    def test_a_class_derived_by_others(self):
        class Mine(KeptView):
            pass

        self.assertEqual(repr(Mine((0, 1, 1), (0, 0, 1))), "Mine(0 1 1)")
        self.assertEqual(str(Mine((0, 1, 1), (0, 0, 1))), "Mine(0 1 1)")


class TableViewTest(unittest.TestCase):
    def test_has_the_given_table(self):
        for view in SMALL_VIEWS + LARGER_VIEWS:
            for parts, table in zip(sorted(partitions(view)), sound_tables(view)):
                held = TableView(view, table)
                self.assertEqual((held.shown, held.table, held.parts), (view, table, parts))

    def test_wrong_arguments(self):
        for made in [TableView, LoggedView]:
            for thing in NO_VIEWS + [View(VIEW)]:
                for table in [TABLE, UNSOUND, None, thing]:
                    with self.assertRaises(NoView):
                        made(thing, table)
            for thing in NO_TABLES + [TableView(VIEW, TABLE)]:
                with self.assertRaises(NoTable):
                    made(VIEW, thing)
            for table in NOT_SOUND:
                with self.assertRaises(NotSound):
                    made(VIEW, table)


class KeptViewTest(unittest.TestCase):
    def test_has_the_table_that_keeps_the_other_view(self):
        met = 0
        for view, other in product(SMALL_VIEWS, repeat=2):
            if len(view) == len(other) and len(set(zip(view, other))) == len(view):
                met += 1
                held = KeptView(view, other)
                blocks = {tuple(s for s in range(len(view)) if other[s] == number) for number in other}
                self.assertEqual(held.parts, tuple(sorted(blocks)))
                self.assertEqual(shown_and_table(held), (view, table_keeping(view, other)))
                self.assertEqual(repr(held.kept), repr(other))
        self.assertGreater(met, 1000)

    def test_kept_is_the_given_view_whatever_the_order_of_its_blocks(self):
        held = KeptView((0, 1, 0), (1, 1, 0))
        self.assertEqual(held.kept, (1, 1, 0))
        self.assertEqual(held.parts, ((0, 1), (2,)))

    def test_no_view(self):
        for thing in NO_VIEWS + [View(VIEW), (0, 1), (0, 1, 0, 1)]:
            with self.assertRaises(NoView):
                KeptView(VIEW, thing)
            if thing not in [(0, 1), (0, 1, 0, 1)]:
                for other in [VIEW, (0, 1, 2), None, thing]:
                    with self.assertRaises(NoView):
                        KeptView(thing, other)

    def test_alike(self):
        for view, other in [(VIEW, VIEW), (VIEW, (0, 0, 0)), (VIEW, (0, 1, 0)), ((0, 0), (0, 0))]:
            with self.assertRaises(Alike):
                KeptView(view, other)


class LoggedViewTest(unittest.TestCase):
    def test_log_of_writes_that_returned(self):
        held = LoggedView(VIEW, TABLE)
        self.assertEqual(held.log, ())
        self.assertEqual(held.put(0, 1), 1)
        self.assertEqual(held.log, ((0, 1, 1),))
        for wrong in [(2, 1), (0, 2), (3, 0), (True, 0), (0, True), (None, None)]:
            with self.assertRaises((NoState, NoValue, Refused)):
                held.put(*wrong)
        self.assertEqual(held.log, ((0, 1, 1),))
        self.assertEqual([held.put(2, 0), held.put(0, 1), held.put(1, 0)], [2, 1, 0])
        self.assertEqual(repr(held.log), "((0, 1, 1), (2, 0, 2), (0, 1, 1), (1, 0, 0))")

    def test_it_is_a_table_view(self):
        self.assertTrue(issubclass(LoggedView, TableView))
        self.assertEqual(LoggedView(VIEW, TABLE), TableView(VIEW, TABLE))

    def test_other_methods_add_nothing(self):
        held = LoggedView(VIEW, TABLE)
        held.may(0)
        held.value_at(0)
        list(held.reachable(0))
        repr(held)
        self.assertTrue(held == LoggedView(VIEW, TABLE))
        self.assertEqual(held.log, ())

    def test_each_object_has_its_own_log(self):
        one, other = LoggedView(VIEW, TABLE), LoggedView(VIEW, TABLE)
        one.put(0, 1)
        self.assertEqual((one.log, other.log), (((0, 1, 1),), ()))
        self.assertTrue(one == other)

    def test_writes_through_chains_and_joined_views_add_nothing(self):
        held = LoggedView(VIEW, TABLE)
        swapped = LoggedView((1, 0), ((1, 0), (1, 0)))
        others = [ChainView(held, swapped), JoinedView(held), JoinedView(held, View((0, 1, 2))), View.joined(held)]
        for other in others:
            for s in range(3):
                for v in other.may(s):
                    other.put(s, v)
        self.assertEqual((held.log, swapped.log), ((), ()))

    def test_a_log_that_was_handed_out_stays(self):
        held = LoggedView(VIEW, TABLE)
        held.put(0, 1)
        log = held.log
        held.put(1, 0)
        self.assertEqual(log, ((0, 1, 1),))
        with self.assertRaises(AttributeError):
            held.log = ()


class ReadTest(unittest.TestCase):
    def test_table_view_of_a_text(self):
        for made in CLASSES + [View((0,))]:
            held = made.read(TEXT)
            self.assertIs(type(held), TableView)
            self.assertEqual(shown_and_table(held), (VIEW, TABLE))

    def test_no_text(self):
        wrong = ["", TEXT + "\n", TEXT[:-1], TEXT.replace("2 -", "3 -"), (VIEW, TABLE), TEXT.encode()]
        for thing in ODD_THINGS + wrong:
            for made in [View, LoggedView]:
                with self.assertRaises(NoText):
                    made.read(thing)

    def test_not_sound(self):
        for table in NOT_SOUND:
            with self.assertRaises(NotSound):
                View.read(table_text(VIEW, table))


class ChainViewTest(unittest.TestCase):
    def test_chain_of_two_objects(self):
        met = 0
        for inner in ORDERLY_VIEWS:
            for outer in SMALL_VIEWS:
                if len(outer) == max(inner) + 1 and len(inner) <= 4:
                    for one, two in product(sound_tables(inner)[::2], sound_tables(outer)[::2]):
                        met += 1
                        held = ChainView(TableView(inner, one), LoggedView(outer, two))
                        self.assertEqual(shown_and_table(held), chain(inner, one, outer, two))
        self.assertGreater(met, 200)

    def test_a_small_one(self):
        held = ChainView(TableView(VIEW, TABLE), KeptView((1, 0), (0, 0)))
        self.assertEqual(held.shown, (1, 0, 1))
        self.assertEqual(held.table, ((1, 0), (1, 0), (None, 2)))
        self.assertEqual(held.parts, PARTS)
        self.assertEqual(held.put(0, 0), 1)
        with self.assertRaises(Refused):
            held.put(2, 0)

    def test_as_the_objects_are_when_it_is_made(self):
        inner, outer = WishView((0, 1, 2)), WishView((0, 1, 1))
        before = ChainView(inner, outer)
        inner.learn(0, 1, 1)
        between = ChainView(inner, outer)
        outer.learn(0, 1, 1)
        after = ChainView(inner, outer)
        self.assertEqual([held.parts for held in (before, between, after)],
                         [((0,), (1,), (2,)), ((0,), (1,), (2,)), ((0, 1), (2,))])

    def test_chains_of_chains(self):
        one = TableView((0, 0, 1, 1, 2, 2), ((0, 2, 4), (1, 3, 5)) * 3)
        two = ChainView(one, TableView((0, 1, 0), ((0, 1), (0, 1), (2, None))))
        three = ChainView(two, TableView((1, 0), ((1, 0), (1, 0))))
        self.assertEqual(three.shown, (1, 1, 0, 0, 1, 1))
        self.assertEqual(three.parts, ((0, 2), (1, 3), (4,), (5,)))

    def test_no_views(self):
        held = TableView(VIEW, TABLE)
        for thing in NO_VIEW_OBJECTS:
            for one, two in [(thing, held), (held, thing), (thing, thing), (thing, View((0, 1)))]:
                with self.assertRaises(NoViews):
                    ChainView(one, two)
        for other in [View((0,)), View((0, 0, 1)), held]:
            with self.assertRaises(NoViews):
                ChainView(held, other)


class JoinedViewTest(unittest.TestCase):
    def all_objects(self, many):
        return [TableView(view, table) for view in ORDERLY_VIEWS if len(view) == many for table in sound_tables(view)]

    def test_two_objects(self):
        met = [0, 0]
        for many in (1, 2, 3):
            for one, two in product(self.all_objects(many), repeat=2):
                self.check(met, one, two)
        self.assertTrue(min(met) > 15, met)

    def test_three_and_four_objects(self):
        met = [0, 0]
        some = [TableView(VIEW, table) for table in sound_tables(VIEW)] + [KeptView((1, 0, 1), (0, 0, 1))]
        some += [TableView((0, 0, 1), ((0, 2), (1, None), (0, 2)))]
        for views in list(product(some, repeat=3)) + list(product(some, repeat=4)):
            self.check(met, *views)
        self.assertTrue(min(met) > 50, met)

    def check(self, met, *views):
        answer = joined(*[shown_and_table(view) for view in views])
        for made in [JoinedView, View.joined, KeptView.joined]:
            if answer[0] == "clash":
                met[0] += 1
                with self.assertRaises(Clash) as caught:
                    made(*views)
                self.assertEqual(repr(caught.exception.reason), repr(answer))
            else:
                met[1] += 1
                held = made(*views)
                self.assertIs(type(held), JoinedView)
                self.assertEqual(("table",) + shown_and_table(held), answer)
                rows = list(zip(*[view.shown for view in views]))
                self.assertEqual(repr(held.tuples), repr(tuple(sorted(set(rows)))))
                self.assertEqual([held.tuples[held.value_at(s)] for s in range(len(rows))], rows)

    def test_a_small_one(self):
        one = TableView((1, 1, 0, 0), ((2, 0), (3, 1), (2, 0), (3, 1)))
        held = View.joined(one, View((0, 1, 0, 1)))
        self.assertEqual(held.shown, (2, 3, 0, 1))
        self.assertEqual(held.tuples, ((0, 0), (0, 1), (1, 0), (1, 1)))
        self.assertEqual(held.parts, ((0, 2), (1, 3)))
        self.assertEqual(View.joined(one).tuples, ((0,), (1,)))
        with self.assertRaises(AttributeError):
            held.tuples = ()

    def test_clash_with_its_reason(self):
        low, high = KeptView((0, 1, 0), (0, 0, 1)), KeptView((0, 1, 0), (0, 1, 1))
        for made in [JoinedView, View.joined]:
            with self.assertRaises(Clash) as caught:
                made(low, high)
            self.assertEqual(caught.exception.reason, ("clash", (0, 1, 2)))
        self.assertEqual((low.parts, high.parts), (((0, 1), (2,)), ((0,), (1, 2))))
        walk = first_walk((0, 1, 0), lambda s, t: abs(s - t) == 1)
        self.assertEqual(caught.exception.reason[1], walk)

    def test_as_the_objects_are_when_it_is_made(self):
        one, two = WishView((0, 1, 2)), WishView((0, 0, 0))
        before = JoinedView(one, two)
        one.learn(0, 1, 1)
        after = JoinedView(one, two)
        self.assertEqual((before.parts, before.tuples), (((0,), (1,), (2,)), ((0, 0), (1, 0), (2, 0))))
        self.assertEqual(after.parts, ((0, 1), (2,)))

    def test_no_views(self):
        for views in unfit_views(TableView(VIEW, TABLE), View((0, 1)), View((0,))):
            for made in [JoinedView, View.joined, WishView.joined]:
                with self.assertRaises(NoViews):
                    made(*views)


class ArgumentsTest(unittest.TestCase):
    def test_arguments_stay_as_they_are(self):
        lists = [[0, 1], [0, 1], [2, None]]
        for made, *args in [
                (View, VIEW), (View, list(VIEW)), (TableView, VIEW, TABLE), (TableView, VIEW, lists),
                (TableView, VIEW, UNSOUND), (TableView, [0, 1], lists), (LoggedView, VIEW, TABLE),
                (LoggedView, VIEW, lists), (KeptView, VIEW, (0, 0, 1)), (KeptView, VIEW, [0, 0, 1]),
                (KeptView, [0], [0]), (View.read, TEXT), (View.read, [TEXT]), (View.read, {TEXT: [TEXT]}), (WishView, VIEW, ((0, 1, 1),)),
                (WishView, VIEW, [[0, 1, 1]]), (WishView, VIEW, ([0, 1, 1],)), (WishView, [0], [[0, 0, 0]]),
                (ChainView, [VIEW], [TABLE]), (JoinedView, [VIEW], [TABLE]), (View.joined, [VIEW], {"a": [TABLE]})]:
            calls_are_clean(self, made, *args)

    def test_methods_leave_arguments_as_they_are(self):
        held = WishView(VIEW)
        for call, *args in [(held.value_at, [0]), (held.put, [0], [1]), (held.put, 0, [1]), (held.may, {"a": [0]}),
                            (held.learn, [0], 1, 1), (held.learn, 0, [1], 1), (held.learn, 0, 1, [1])]:
            calls_are_clean(self, call, *args)

    def test_objects_stay_as_they_are(self):
        one, two, three = TableView(VIEW, TABLE), WishView(VIEW, ((0, 1, 1),)), View((1, 0))
        before = repr([(held.shown, held.table, held.parts) for held in (one, two, three)] + [two.wishes])
        first = [ChainView(one, three), ChainView(two, three), JoinedView(one, two), View.joined(two, one, one)]
        again = [ChainView(one, three), ChainView(two, three), JoinedView(one, two), View.joined(two, one, one)]
        self.assertEqual(first, again)
        after = repr([(held.shown, held.table, held.parts) for held in (one, two, three)] + [two.wishes])
        self.assertEqual(after, before)


if __name__ == "__main__":
    unittest.main()
