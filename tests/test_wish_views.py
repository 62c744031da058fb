import random
import unittest
from itertools import product

from samples import LARGER_VIEWS, NO_NUMBERS, NO_VIEWS, ODD_THINGS, SMALL_VIEWS, sound_tables
from writebacks.errors import Clash, Full, NoState, NoValue, NoView, NoWishes, Refused
from writebacks.family import TableView, View, WishView
from writebacks.wishes import smallest

VIEW = (0, 1, 0)
TABLE = ((0, 1), (0, 1), (2, None))
PARTS = ((0, 1), (2,))
NARROW = ((0, None), (None, 1), (2, None))


def all_of(held):
    return repr((held.shown, held.table, held.parts, held.wishes))


class MakingTest(unittest.TestCase):
    def test_without_wishes(self):
        for view in SMALL_VIEWS + LARGER_VIEWS:
            for held in [WishView(view), WishView(view, ()), WishView(view, wishes=())]:
                self.assertEqual(held, View(view))
                self.assertEqual(held.wishes, ())

    def test_smallest_table_with_the_wishes(self):
        wishes = ((0, 1, 1), (2, 1, None), (0, 1, 1))
        held = WishView(VIEW, wishes)
        self.assertEqual(all_of(held), repr((VIEW, TABLE, PARTS, wishes)))

    def test_clash_with_what_smallest_returns(self):
        met = [0, 0]
        for view in [(0, 1), (0, 1, 0), (0, 1, 2)]:
            values = range(max(view) + 1)
            some = list(product(range(len(view)), values, [None] + list(range(len(view)))))
            for wishes in product(some, repeat=2):
                self.check(met, view, wishes)
        self.assertTrue(min(met) > 100, met)

    def check(self, met, view, wishes):
        kind, *rest = smallest(view, wishes)
        met[kind == "table"] += 1
        if kind == "table":
            held = WishView(view, wishes)
            self.assertEqual((held.table, held.wishes), (rest[0], wishes))
        else:
            with self.assertRaises(Clash) as caught:
                WishView(view, wishes)
            self.assertEqual(repr(caught.exception.reason), repr((kind, *rest)))

    def test_each_kind_of_clash(self):
        for wishes, reason in [(((0, 1, 1), (0, 1, 2)), ("shown", 1)),
                               (((0, 1, 1), (2, 1, 1)), ("twice", (0, 1, 2))),
                               (((0, 1, 1), (1, 0, None)), ("refused", 1, (1, 0)))]:
            with self.assertRaises(Clash) as caught:
                WishView(VIEW, wishes)
            self.assertEqual(caught.exception.reason, reason)

    def test_twenty_wishes(self):
        self.assertEqual(WishView(VIEW, ((0, 1, 1),) * 20).wishes, ((0, 1, 1),) * 20)
        with self.assertRaises(NoWishes):
            WishView(VIEW, ((0, 1, 1),) * 21)

    def test_no_view(self):
        for thing in NO_VIEWS + [View(VIEW)]:
            for wishes in [(), ((0, 0, 1), (0, 0, None)), None, thing]:
                with self.assertRaises(NoView):
                    WishView(thing, wishes)
            with self.assertRaises(NoView):
                WishView(thing)

    def test_no_wishes(self):
        wrong = [thing for thing in ODD_THINGS if thing != ()]
        wrong += [(wish,) for wish in ODD_THINGS] + [(0, 1, 1), [(0, 1, 1)], ([0, 1, 1],), {(0, 1, 1): 0}]
        wrong += [((0, 1, 1), (0, 1)), ((0, 1, 1, 1),), ((3, 1, 1),), ((0, 2, 1),), ((0, 1, 3),), ((-1, 1, 1),)]
        wrong += [((0, True, 1),), ((False, 1, 1),), ((0, 1, True),), ((0, 1, False),)]
        wrong += [((None, 1, 1),), ((0, None, 1),)]
        for wishes in wrong:
            with self.assertRaises(NoWishes):
                WishView(VIEW, wishes)


class LearnTest(unittest.TestCase):
    def test_one_wish_after_the_other(self):
        held = WishView((0, 1, 2, 0))
        self.assertIsNone(held.learn(0, 1, 1))
        self.assertEqual((held.parts, held.wishes), (((0, 1), (2,), (3,)), ((0, 1, 1),)))
        self.assertEqual(held.put(1, 0), 0)
        self.assertIsNone(held.learn(3, 2, None))
        self.assertIsNone(held.learn(2, 1, 1))
        self.assertEqual(held.parts, ((0, 1, 2), (3,)))
        self.assertEqual(held.table, ((0, 1, 2), (0, 1, 2), (0, 1, 2), (3, None, None)))
        self.assertEqual(held.wishes, ((0, 1, 1), (3, 2, None), (2, 1, 1)))
        self.assertEqual(held.put(0, 2), 2)
        self.assertEqual(held.may(3), (0,))
        self.assertEqual(list(held.reachable(2)), [2, 0, 1])
        self.assertEqual(held.shown, (0, 1, 2, 0))

    def test_a_wish_that_is_among_them_already(self):
        held = WishView(VIEW, ((0, 1, 1),))
        held.learn(2, 1, None)
        held.learn(0, 1, 1)
        held.learn(2, 1, None)
        self.assertEqual(held.wishes, ((0, 1, 1), (2, 1, None), (0, 1, 1), (2, 1, None)))
        self.assertEqual(held.table, TABLE)

    def test_clash_changes_nothing(self):
        for wish, reason in [((0, 1, 2), ("shown", 2)), ((2, 1, 1), ("twice", (0, 1, 2))),
                             ((1, 0, None), ("refused", 2, (1, 0))), ((0, 0, None), ("refused", 2, (0,))),
                             ((0, 1, None), ("refused", 2, (0, 1)))]:
            held = WishView(VIEW, ((0, 1, 1), (2, 1, None)))
            before = all_of(held)
            for _ in range(2):
                with self.assertRaises(Clash) as caught:
                    held.learn(*wish)
                self.assertEqual(caught.exception.reason, reason)
                self.assertEqual(all_of(held), before)
            held.learn(1, 0, 0)
            self.assertEqual(held.wishes, ((0, 1, 1), (2, 1, None), (1, 0, 0)))

    def test_clash_with_an_older_wish(self):
        held = WishView(VIEW, ((0, 1, None),))
        with self.assertRaises(Clash) as caught:
            held.learn(1, 0, 0)
        self.assertEqual(caught.exception.reason, ("refused", 0, (0, 1)))
        self.assertEqual(all_of(held), repr((VIEW, NARROW, ((0,), (1,), (2,)), ((0, 1, None),))))

    def test_many_random_wishes(self):
        chance = random.Random(3)
        met = [0, 0]
        for _ in range(300):
            view = chance.choice(SMALL_VIEWS + LARGER_VIEWS)
            wanted = chance.choice(sound_tables(view))
            held, wishes = WishView(view), ()
            for _ in range(chance.randint(1, 12)):
                s, v = chance.randrange(len(view)), chance.randrange(max(view) + 1)
                result = wanted[s][v] if chance.random() < 0.8 else chance.choice([None] + list(range(len(view))))
                wishes = self.learn(held, wishes, (s, v, result), met)
        self.assertTrue(min(met) > 100, met)

    def learn(self, held, wishes, wish, met):
        answer = smallest(held.shown, wishes + (wish,))
        met[answer[0] == "table"] += 1
        before = all_of(held)
        if answer[0] == "table":
            held.learn(*wish)
            self.assertEqual(held, TableView(held.shown, answer[1]))
            self.assertEqual(repr(held.wishes), repr(wishes + (wish,)))
            return wishes + (wish,)
        with self.assertRaises(Clash) as caught:
            held.learn(*wish)
        self.assertEqual(repr(caught.exception.reason), repr(answer))
        self.assertEqual(all_of(held), before)
        return wishes

    def test_full_with_twenty_wishes(self):
        held = WishView(VIEW)
        for _ in range(20):
            held.learn(0, 1, 1)
        self.assertEqual(held.wishes, ((0, 1, 1),) * 20)
        for made in [held, WishView(VIEW, ((0, 1, 1),) * 20)]:
            before = all_of(made)
            for wish in [(0, 1, 1), (2, 1, None), (0, 1, None), (2, 1, 1), (0, 1, 2)]:
                with self.assertRaises(Full):
                    made.learn(*wish)
                self.assertEqual(all_of(made), before)

    def test_twentieth_wish(self):
        held = WishView(VIEW, ((0, 1, 1),) * 19)
        with self.assertRaises(Clash):
            held.learn(2, 1, 1)
        held.learn(2, 1, None)
        self.assertEqual(len(held.wishes), 20)

    def test_wrong_arguments_in_their_order(self):
        for held in [WishView(VIEW), WishView(VIEW, ((0, 1, 1),)), WishView(VIEW, ((0, 1, 1),) * 20)]:
            before = all_of(held)
            for thing in NO_NUMBERS + [3, -3, 2.0]:
                for value, result in product([1, 2, None, thing], [None, 1, 3, thing]):
                    with self.assertRaises(NoState):
                        held.learn(thing, value, result)
            for thing in NO_NUMBERS + [2, 1.0]:
                for result in [None, 0, 1, 3, thing]:
                    with self.assertRaises(NoValue):
                        held.learn(0, thing, result)
            for thing in NO_NUMBERS + [3, 1.0]:
                if thing is not None:
                    with self.assertRaises(NoState):
                        held.learn(0, 1, thing)
            self.assertEqual(all_of(held), before)

    def test_each_object_has_its_own_wishes(self):
        one, other = WishView(VIEW), WishView(VIEW)
        one.learn(0, 1, 1)
        self.assertEqual((one.wishes, other.wishes), (((0, 1, 1),), ()))
        self.assertEqual(other.table, NARROW)

    def test_what_was_handed_out_stays(self):
        wishes = ((0, 1, 1),)
        held = WishView(VIEW, wishes)
        handed = [held.shown, held.table, held.parts, held.wishes, held.may(2)]
        before = repr(handed)
        held.learn(1, 1, 1)
        held.learn(2, 1, None)
        self.assertEqual(repr(handed), before)
        self.assertEqual(wishes, ((0, 1, 1),))
        with self.assertRaises(AttributeError):
            held.wishes = ()

    def test_writes_follow(self):
        held = WishView(VIEW)
        with self.assertRaises(Refused):
            held.put(0, 1)
        held.learn(1, 0, 0)
        self.assertEqual(held.put(0, 1), 1)


if __name__ == "__main__":
    unittest.main()
