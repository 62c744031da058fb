import random
import unittest
from itertools import product

from samples import LARGER_VIEWS, NO_NUMBERS, ODD_THINGS, ORDERLY_VIEWS, SMALL_VIEWS, sound_tables, unfit_views
from writebacks.desk import Cell, Desk
from writebacks.errors import Clash, NoCell, NoState, NoStep, NothingDone, NoValue, NoViews, Refused
from writebacks.family import ChainView, JoinedView, KeptView, LoggedView, TableView, View, WishView

VIEW = (0, 1, 0)
TABLE = ((0, 1), (0, 1), (2, None))

# The two views of a rectangle with two times two states.
ONE = TableView((0, 0, 1, 1), ((0, 2), (1, 3), (0, 2), (1, 3)))
OTHER = TableView((0, 1, 0, 1), ((0, 1), (0, 1), (2, 3), (2, 3)))

NO_STEPS = ODD_THINGS + [
    (), (0,), (0, 0, 0), [0, 0], (2, 0), (-1, 0), (0, 2), (0, -1), (True, 0), (0, True), (False, 0), (0, False),
    (0, None), (None, 0), ("0", 0), (0, "0"), ((0, 0),), (0, (0,)), (0, 10**13 - 1), (0, [0]), ({}, 0),
]


def all_of(desk):
    return repr((desk.state, desk.shown, desk.history))


def told(call, *args):
    """What a call does: its result or its exception, as a text."""
    try:
        return repr(call(*args))
    except ValueError as error:
        return type(error).__name__


def setting(thing, name, value):
    setattr(thing, name, value)


def some_views(chance, most):
    """Up to so many view objects with the same number of states, of several classes."""
    many = chance.randint(2, 5)
    views = []
    for _ in range(chance.randint(1, most)):
        view = chance.choice([view for view in SMALL_VIEWS + LARGER_VIEWS if len(view) == many])
        made = chance.choice([TableView, LoggedView])
        views.append(made(view, chance.choice(sound_tables(view))))
    return views


class DeskTest(unittest.TestCase):
    def test_state_and_shown(self):
        desk = Desk(2, ONE, OTHER)
        self.assertEqual((desk.state, desk.shown, desk.history), (2, (1, 0), ()))
        desk.state = 1
        self.assertEqual((desk.state, desk.shown, desk.history), (1, (0, 1), (2,)))
        self.assertIsNone(desk.assign(3))
        self.assertEqual((desk.state, desk.shown, desk.history), (3, (1, 1), (2, 1)))

    def test_every_state_of_some_views(self):
        for view in ORDERLY_VIEWS:
            held = View(view)
            for s in range(len(view)):
                for views in [(held,), (held, held), (held, View(tuple(range(len(view)))), held, held)]:
                    desk = Desk(s, *views)
                    self.assertEqual(repr(desk.state), repr(s))
                    self.assertEqual(repr(desk.shown), repr(tuple(other.shown[s] for other in views)))

    def test_view_objects_of_all_classes(self):
        first = TableView(VIEW, TABLE)
        views = [first, KeptView((0, 0, 1), (0, 1, 0)), LoggedView(VIEW, TABLE), WishView(VIEW),
                 JoinedView(first, first), ChainView(View((0, 1, 2)), View((1, 0, 0)))]
        for view in views:
            self.assertEqual(Desk(0, view, first).shown, (view.shown[0], 0))

    def test_no_views(self):
        for views in unfit_views(TableView(VIEW, TABLE), View((0, 1)), View((0,))):
            for state in [0, 3, None, True]:
                with self.assertRaises(NoViews):
                    Desk(state, *views)

    def test_no_state(self):
        desk = Desk(1, ONE, OTHER)
        before = all_of(desk)
        for thing in NO_NUMBERS + [4, -4, 2.0]:
            with self.assertRaises(NoState):
                Desk(thing, ONE, OTHER)
            with self.assertRaises(NoState):
                desk.state = thing
            with self.assertRaises(NoState):
                desk.assign(thing)
            with self.assertRaises(NoState):
                next(iter(desk.routes(thing)))
            self.assertEqual(all_of(desk), before)

    def test_tables_at_the_time_of_each_call(self):
        held = WishView((0, 1, 2))
        desk = Desk(0, held, View((0, 0, 0)))
        cell = desk.cell(0)
        with self.assertRaises(Refused):
            cell.value = 1
        with self.assertRaises(Refused):
            desk.do((0, 1))
        self.assertEqual((list(desk.reachable()), list(desk.routes(1))), ([0], []))
        held.learn(0, 1, 1)
        self.assertEqual((list(desk.reachable()), list(desk.routes(1))), ([0, 1], [((0, 1),)]))
        cell.value = 1
        desk.do((0, 0), (0, 1))
        with self.assertRaises(Refused):
            cell.assign(2)
        held.learn(2, 0, 0)
        cell.assign(2)
        self.assertEqual((desk.state, desk.history), (2, (0, 1, 1)))

    def test_only_shown_and_history_are_read_only(self):
        desk = Desk(0, ONE)
        for name in ["shown", "history"]:
            with self.assertRaises(AttributeError):
                setattr(desk, name, ())

    def test_desks_over_the_same_views_are_apart(self):
        one, other = Desk(0, ONE), Desk(0, ONE)
        one.state = 3
        self.assertEqual((other.state, other.history, other.shown), (0, (), (0,)))

    def test_nothing_is_logged(self):
        held = LoggedView(VIEW, TABLE)
        desk = Desk(0, held, held)
        desk.cell(0).value = 1
        desk.cell(1).assign(0)
        desk.do((0, 1), (1, 0))
        list(desk.reachable())
        list(desk.routes(1))
        desk.undo()
        self.assertEqual(held.log, ())
        held.put(0, 1)
        self.assertEqual((held.log, desk.state), (((0, 1, 1),), 0))


class CellTest(unittest.TestCase):
    def test_reading_and_writing(self):
        desk = Desk(0, ONE, OTHER)
        row, column = desk.cell(0), desk.cell(1)
        self.assertIsInstance(row, Cell)
        self.assertEqual((row.value, column.value), (0, 0))
        row.value = 1
        self.assertEqual((desk.state, row.value, column.value), (2, 1, 0))
        self.assertIsNone(column.assign(1))
        self.assertEqual((desk.state, row.value, column.value, desk.shown), (3, 1, 1, (1, 1)))
        row.value -= 1
        self.assertEqual((desk.state, desk.history), (1, (0, 2, 3)))

    def test_cells_follow_the_state(self):
        desk = Desk(0, ONE, OTHER)
        row, again, column = desk.cell(0), desk.cell(0), desk.cell(1)
        for change in [lambda: desk.assign(3), lambda: setting(desk, "state", 2), lambda: desk.do((1, 1)),
                       lambda: setting(again, "value", 0), desk.undo, lambda: column.assign(0), desk.undo]:
            change()
            self.assertEqual((row.value, column.value), desk.shown)
            self.assertEqual((row.value, again.value), (ONE.shown[desk.state],) * 2)

    def test_every_write_of_some_views(self):
        for view in ORDERLY_VIEWS:
            for table in sound_tables(view):
                for s, v in product(range(len(view)), range(max(view) + 1)):
                    for write in [lambda cell: setting(cell, "value", v), lambda cell: cell.assign(v)]:
                        self.check_write(Desk(s, View(view), TableView(view, table)), write, table[s][v])

    def check_write(self, desk, write, result):
        s = desk.state
        if result is None:
            with self.assertRaises(Refused):
                write(desk.cell(1))
            self.assertEqual((desk.state, desk.history), (s, ()))
        else:
            write(desk.cell(1))
            self.assertEqual((desk.state, desk.history), (result, (s,)))

    def test_no_cell(self):
        desk = Desk(0, ONE, OTHER)
        for thing in NO_NUMBERS + [2, 3, -2, 1.0]:
            with self.assertRaises(NoCell):
                desk.cell(thing)
        for many in range(1, 5):
            desk = Desk(0, *[ONE] * many)
            self.assertEqual([desk.cell(at).value for at in range(many)], [0] * many)
            with self.assertRaises(NoCell):
                desk.cell(many)

    def test_no_value(self):
        desk = Desk(2, TableView(VIEW, TABLE), View((0, 1, 2)))
        for number, thing in list(product((0, 1), NO_NUMBERS)) + [(0, 2), (0, 1.0), (1, 3), (1, -2)]:
            cell = desk.cell(number)
            with self.assertRaises(NoValue):
                cell.value = thing
            with self.assertRaises(NoValue):
                cell.assign(thing)
            self.assertEqual((desk.state, desk.history), (2, ()))

    def test_refused(self):
        desk = Desk(2, TableView(VIEW, TABLE))
        desk.cell(0).value = 0
        with self.assertRaises(Refused):
            desk.cell(0).value = 1
        with self.assertRaises(Refused):
            desk.cell(0).assign(1)
        self.assertEqual((desk.state, desk.history), (2, (2,)))

    def test_the_same_call_returns_an_equal_cell(self):
        desk = Desk(0, ONE, OTHER)
        self.assertTrue(desk.cell(0) == desk.cell(0))
        self.assertFalse(desk.cell(0) == desk.cell(1))
        self.assertFalse(desk.cell(0) == Desk(0, ONE, OTHER).cell(0))
        for thing in ODD_THINGS:
            self.assertFalse(desk.cell(0) == thing)


class DoTest(unittest.TestCase):
    def test_no_step_one_and_many(self):
        desk = Desk(0, ONE, OTHER)
        self.assertIsNone(desk.do())
        self.assertEqual((desk.state, desk.history), (0, (0,)))
        self.assertIsNone(desk.do((0, 1)))
        self.assertEqual((desk.state, desk.history), (2, (0, 0)))
        self.assertIsNone(desk.do((0, 0), (1, 1), (0, 1), (1, 1)))
        self.assertEqual((desk.state, desk.history), (3, (0, 0, 2)))
        desk.do(*[(0, 0), (1, 0), (0, 1)] * 1000)
        self.assertEqual((desk.state, desk.history), (2, (0, 0, 2, 3)))

    def test_refused_in_the_middle(self):
        desk = Desk(1, TableView((0, 1, 2), ((0, 1, None), (0, 1, None), (None, None, 2))), View((0, 0, 1)))
        desk.state = 0
        for steps in [((0, 1), (0, 2), (0, 0)), ((0, 2),), ((0, 2), (0, 1)), ((0, 1), (1, 1)),
                      ((0, 1), (0, 0), (1, 1))]:
            with self.assertRaises(Refused):
                desk.do(*steps)
            self.assertEqual((desk.state, desk.history), (0, (1,)))

    def test_no_step_before_any_is_made(self):
        desk = Desk(0, ONE, OTHER)
        for thing in NO_STEPS:
            for steps in [(thing,), ((0, 1), thing), (thing, (0, 1)), ((0, 1), (1, 1), thing, (0, 0))]:
                with self.assertRaises(NoStep):
                    desk.do(*steps)
                self.assertEqual((desk.state, desk.history), (0, ()))

    def test_no_step_comes_before_refused(self):
        desk = Desk(2, TableView(VIEW, TABLE))
        for steps in [((0, 1), (0, 2)), ((0, 1), (1, 0)), ((0, 1), None)]:
            with self.assertRaises(NoStep):
                desk.do(*steps)
        with self.assertRaises(Refused):
            desk.do((0, 1), (0, 0))

    def test_steps_are_checked_by_the_values_of_their_own_view(self):
        desk = Desk(0, View((0, 0)), TableView((0, 1), ((0, 1), (0, 1))))
        with self.assertRaises(NoStep):
            desk.do((0, 1))
        desk.do((1, 1))
        self.assertEqual(desk.state, 1)

    def test_steps_stay_as_they_are(self):
        steps = [(0, 1), [1, 1], {"a": [1]}]
        with self.assertRaises(NoStep):
            Desk(0, ONE, OTHER).do(*steps)
        self.assertEqual(steps, [(0, 1), [1, 1], {"a": [1]}])


class UndoTest(unittest.TestCase):
    def test_changes_of_all_kinds(self):
        desk = Desk(0, ONE, OTHER)
        desk.state = 2
        desk.assign(2)
        desk.cell(1).value = 1
        desk.cell(1).assign(1)
        desk.do()
        desk.do((0, 0), (1, 0))
        self.assertEqual((desk.state, desk.history), (0, (0, 2, 2, 3, 3, 3)))
        states = []
        for left in range(6, 0, -1):
            self.assertEqual(len(desk.history), left)
            self.assertIsNone(desk.undo())
            states.append(desk.state)
        self.assertEqual(states, [3, 3, 3, 2, 2, 0])
        self.assertEqual(desk.history, ())

    def test_nothing_done(self):
        desk = Desk(1, ONE, OTHER)
        for _ in range(2):
            with self.assertRaises(NothingDone):
                desk.undo()
            self.assertEqual(all_of(desk), repr((1, (0, 1), ())))
        desk.do((0, 1))
        desk.undo()
        with self.assertRaises(NothingDone):
            desk.undo()
        self.assertEqual((desk.state, desk.history), (1, ()))

    def test_changes_behind_an_undo(self):
        desk = Desk(0, ONE, OTHER)
        desk.state = 1
        desk.state = 2
        desk.undo()
        desk.cell(0).value = 1
        self.assertEqual((desk.state, desk.history), (3, (0, 1)))
        desk.undo()
        desk.undo()
        self.assertEqual((desk.state, desk.history), (0, ()))

    def test_nothing_of_calls_that_raised(self):
        desk = Desk(2, TableView(VIEW, TABLE))
        desk.state = 2
        cell = desk.cell(0)
        for call in [lambda: desk.assign(3), lambda: setting(desk, "state", None), lambda: cell.assign(1),
                     lambda: cell.assign(2), lambda: setting(cell, "value", 1), lambda: setting(cell, "value", None),
                     lambda: desk.do((0, 1)), lambda: desk.do((0, 0), (0, 1)), lambda: desk.do((0, 0), None),
                     lambda: desk.cell(1), lambda: list(desk.routes(3))]:
            with self.assertRaises((NoState, NoValue, NoStep, NoCell, Refused)):
                call()
            self.assertEqual((desk.state, desk.history), (2, (2,)))
        desk.undo()
        self.assertEqual((desk.state, desk.history), (2, ()))

    def test_a_history_that_was_handed_out_stays(self):
        desk = Desk(0, ONE)
        desk.state = 1
        history, shown = desk.history, desk.shown
        desk.state = 2
        self.assertEqual((history, shown), ((0,), (0,)))
        desk.undo()
        desk.undo()
        self.assertEqual((history, shown), ((0,), (0,)))

    def test_random_calls(self):
        chance = random.Random(5)
        met = {}
        for _ in range(200):
            views = some_views(chance, 4)
            desk, states = Desk(0, *views), [0]
            cells = [desk.cell(at) for at in range(len(views))]
            for _ in range(30):
                name = self.call(chance, views, desk, cells, states)
                met[name] = met.get(name, 0) + 1
                self.assertEqual((desk.state, desk.history), (states[-1], tuple(states[:-1])))
                self.assertEqual(desk.shown, tuple(view.value_at(states[-1]) for view in views))
                self.assertEqual(tuple(cell.value for cell in cells), desk.shown)
            self.assertEqual([view.log for view in views if isinstance(view, LoggedView)],
                             [()] * len([view for view in views if isinstance(view, LoggedView)]))
        self.assertTrue(min(met.values()) > 100, met)
        self.assertEqual(len(met), 9)

    def call(self, chance, views, desk, cells, states):
        """Make a call and note in `states` what it must do; tell its kind."""
        kind = chance.choice(["state", "write", "do", "undo"])
        if kind == "undo":
            if len(states) == 1:
                self.assertEqual(told(desk.undo), "NothingDone")
                return "nothing done"
            desk.undo()
            states.pop()
            return "undo"
        if kind == "state":
            state = chance.randint(0, len(views[0].shown))
            wrong = state == len(views[0].shown)
            doing = chance.choice([desk.assign, lambda value: setting(desk, "state", value)])
            self.assertEqual(told(doing, state), "NoState" if wrong else "None")
            states.extend([] if wrong else [state])
            return "no state" if wrong else "state"
        steps = []
        for _ in range(1 if kind == "write" else chance.randint(0, 5)):
            number = chance.randrange(len(views))
            steps.append((number, chance.randint(0, max(views[number].shown))))
        state = states[-1]
        for number, value in steps:
            state = None if state is None else views[number].table[state][value]
        if kind == "write":
            (number, value), = steps
            doing = chance.choice([cells[number].assign, lambda value: setting(cells[number], "value", value)])
            self.assertEqual(told(doing, value), "Refused" if state is None else "None")
        else:
            self.assertEqual(told(desk.do, *steps), "Refused" if state is None else "None")
        states.extend([] if state is None else [state])
        return kind + (" refused" if state is None else "") + (" nothing" if not steps else "")


class ReachableTest(unittest.TestCase):
    def test_by_the_number_of_steps_and_then_ascending(self):
        views = [KeptView((0, 1, 2, 3, 4, 5), (0, 1, 1, 2, 3, 0)), KeptView((0, 1, 2, 3, 4, 5), (0, 1, 2, 1, 3, 2))]
        self.assertEqual(views[0].parts, ((0, 5), (1, 2), (3,), (4,)))
        self.assertEqual(views[1].parts, ((0,), (1, 3), (2, 5), (4,)))
        self.assertEqual([list(Desk(s, *views).reachable()) for s in range(6)],
                         [[0, 5, 2, 1, 3], [1, 2, 3, 5, 0], [2, 1, 5, 0, 3], [3, 1, 2, 5, 0], [4], [5, 0, 2, 1, 3]])

    def test_rectangle(self):
        self.assertEqual([list(Desk(s, ONE, OTHER).reachable()) for s in range(4)],
                         [[0, 1, 2, 3], [1, 0, 3, 2], [2, 0, 3, 1], [3, 1, 2, 0]])

    def test_random_desks(self):
        chance = random.Random(8)
        for _ in range(400):
            views = some_views(chance, 4)
            start = chance.randrange(len(views[0].shown))
            desk = Desk(start, *views)
            before = all_of(desk)
            self.assertEqual(list(desk.reachable()), self.expected(views, start))
            self.assertEqual(all_of(desk), before)

    def expected(self, views, start):
        """The states with the fewest steps to each, from the sets of states that so many steps lead to."""
        layers = [{start}]
        while layers[-1]:
            results = {result for view in views for s in layers[-1] for result in view.table[s] if result is not None}
            layers.append(results - set().union(*layers))
        return [s for layer in layers for s in sorted(layer)]

    def test_it_follows_the_state(self):
        desk = Desk(0, TableView(VIEW, TABLE))
        self.assertEqual(list(desk.reachable()), [0, 1])
        desk.state = 2
        self.assertEqual(list(desk.reachable()), [2])


class RoutesTest(unittest.TestCase):
    def test_rectangle(self):
        desk = Desk(0, ONE, OTHER)
        self.assertEqual(list(desk.routes(0)), [()])
        self.assertEqual(list(desk.routes(1)), [((1, 1),)])
        self.assertEqual(list(desk.routes(2)), [((0, 1),)])
        self.assertEqual(list(desk.routes(3)), [((0, 1), (1, 1)), ((1, 1), (0, 1))])

    def test_none(self):
        desk = Desk(2, TableView(VIEW, TABLE))
        self.assertEqual([list(desk.routes(target)) for target in range(3)], [[], [], [()]])

    def test_several_views_that_lead_to_the_same_state(self):
        held = TableView((0, 1, 2), ((0, 1, None), (0, 1, None), (None, None, 2)))
        desk = Desk(0, held, TableView((0, 1, 1), ((0, 1), (0, 1), (None, 2))), held, KeptView((1, 0, 1), (0, 1, 1)))
        self.assertEqual(list(desk.routes(1)), [((0, 1),), ((1, 1),), ((2, 1),)])
        self.assertEqual(list(desk.routes(2)), [((0, 1), (3, 1)), ((1, 1), (3, 1)), ((2, 1), (3, 1))])

    def test_a_long_way(self):
        low = KeptView(tuple(range(9)), (0, 0, 1, 1, 2, 2, 3, 3, 4))
        high = KeptView(tuple(range(9)), (0, 1, 1, 2, 2, 3, 3, 4, 4))
        steps = tuple((at % 2, at + 1) for at in range(8))
        self.assertEqual(list(Desk(0, low, high).routes(8)), [steps])
        self.assertEqual(len(list(Desk(0, low, high, high, low).routes(8))), 2 ** 8)

    def test_random_desks(self):
        chance = random.Random(9)
        met = {}
        for _ in range(1000):
            views = some_views(chance, 3)
            start = chance.randrange(len(views[0].shown))
            desk = Desk(start, *views)
            before = all_of(desk)
            for target in range(len(views[0].shown)):
                found = self.expected(views, start, target)
                self.assertEqual(repr(list(desk.routes(target))), repr(found))
                kind = (len(found[0]) if found else None, len(found) > 1)
                met[kind] = met.get(kind, 0) + 1
            self.assertEqual(all_of(desk), before)
        kinds = {(None, False), (0, False)} | set(product((1, 2, 3), (False, True)))
        self.assertTrue(kinds <= set(met), met)

    def expected(self, views, start, target):
        """The routes of the smallest length, from all tuples of steps of each length, in ascending order."""
        steps = [(number, v) for number, view in enumerate(views) for v in range(max(view.shown) + 1)]
        found = {(): start}
        for _ in range(len(views[0].shown)):
            fitting = [route for route in found if found[route] == target]
            if fitting:
                return fitting
            found = {route + (step,): views[step[0]].table[found[route]][step[1]] for route in found for step in steps}
            found = {route: result for route, result in found.items() if result is not None}
            # A state that was passed before is on no shortest route; without this the routes are too many.
            found = {route: result for route, result in found.items() if self.is_new(views, start, route, result)}
        return []

    def is_new(self, views, start, route, result):
        state, passed = start, []
        for number, v in route:
            passed.append(state)
            state = views[number].table[state][v]
        return result not in passed

    def test_no_state(self):
        desk = Desk(0, ONE, OTHER)
        for thing in NO_NUMBERS + [4, -2]:
            with self.assertRaises(NoState):
                list(desk.routes(thing))

    def test_it_follows_the_state(self):
        desk = Desk(0, ONE, OTHER)
        desk.state = 3
        self.assertEqual(list(desk.routes(0)), [((0, 0), (1, 0)), ((1, 0), (0, 0))])
        self.assertEqual(list(desk.routes(3)), [()])

    def test_what_a_route_says_leads_there(self):
        for target in range(4):
            for route in list(Desk(0, ONE, OTHER).routes(target)):
                desk = Desk(0, ONE, OTHER)
                desk.do(*route)
                self.assertEqual((desk.state, desk.history), (target, (0,)))


class LearningTest(unittest.TestCase):
    def test_a_clash_of_a_view_leaves_its_desk_as_it_was(self):
        held = WishView(VIEW, ((0, 1, 1),))
        desk = Desk(0, held)
        with self.assertRaises(Clash):
            held.learn(2, 1, 1)
        desk.cell(0).value = 1
        self.assertEqual((desk.state, list(desk.reachable())), (1, [1, 0]))


if __name__ == "__main__":
    unittest.main()
