import unittest
from itertools import combinations, product

from samples import NO_NUMBERS, ODD_THINGS, is_walk, walks
from writebacks.traces import is_trace, is_twice, linked_parts, near_states, shortest_traces, shortest_twice


def all_links(many):
    """All sets of links between so many states."""
    ways = list(combinations(range(many), 2))
    return [list(links) for size in range(len(ways) + 1) for links in combinations(ways, size)]


def either_way(links):
    return lambda s, t: (s, t) in links or (t, s) in links


class TracesTest(unittest.TestCase):
    def test_near_states(self):
        self.assertEqual(near_states(4, [(2, 0), (0, 1), (1, 1), (2, 0)]), [[1, 2], [0], [0], []])
        self.assertEqual(near_states(1, []), [[]])

    def test_is_trace(self):
        for links in all_links(3):
            near = near_states(3, links)
            for many in range(1, 4):
                for thing in product(range(-1, 4), repeat=many):
                    expected = min(thing) >= 0 and max(thing) <= 2 and is_walk(either_way(links), thing)
                    self.assertIs(is_trace(near, thing), expected, (links, thing))

    def test_everything_else_is_no_trace(self):
        near = near_states(9, list(combinations(range(9), 2)))
        for thing in [thing for thing in ODD_THINGS if thing != (0, 1) * 1500] + [(), [0, 1]]:
            with self.subTest(repr(thing)[:80]):
                self.assertIs(is_trace(near, thing), False)
        self.assertIs(is_trace(near, (0, 1) * 1500), True)
        for thing in NO_NUMBERS:
            self.assertIs(is_trace(near, (3, thing, 4)), False)

    def test_shortest_traces(self):
        for links in all_links(4):
            near = near_states(4, links)
            for start in range(4):
                expected = {}
                for found in walks(4, either_way(links)):
                    for walk in found:
                        if walk[0] == start:
                            expected.setdefault(walk[-1], walk)
                self.assertEqual(shortest_traces(near, start), expected)

    def test_linked_parts(self):
        self.assertEqual(linked_parts(near_states(5, [(4, 2), (0, 3), (2, 1)])), ((0, 3), (1, 2, 4)))
        self.assertEqual(linked_parts(near_states(3, [])), ((0,), (1,), (2,)))
        self.assertEqual(linked_parts(near_states(9, [(8, 0), (8, 1)]))[0], (0, 1, 8))

    def test_twice(self):
        self.assertIs(is_twice((0, 1, 0), (0, 1, 2)), True)
        self.assertIs(is_twice((0, 1, 0), (0, 1)), False)
        self.assertIs(is_twice((0, 1, 0), (0, 1, 0)), False)
        self.assertIs(is_twice((0, 1, 0), (0,)), False)
        self.assertEqual(shortest_twice((0, 1, 0), near_states(3, [(0, 1), (1, 2)])), (0, 1, 2))
        self.assertIsNone(shortest_twice((0, 1, 0), near_states(3, [(0, 1)])))


if __name__ == "__main__":
    unittest.main()
