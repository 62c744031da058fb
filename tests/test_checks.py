import unittest

from samples import NO_NUMBERS, ODD_THINGS, nested
from writebacks.checks import is_below, is_same, is_whole


class NumbersTest(unittest.TestCase):
    def test_whole_numbers(self):
        for number in [0, 1, -1, 8, 10**13 - 1, 1 - 10**13]:
            self.assertIs(is_whole(number), True)
        for thing in [None, True, False, "0", [0], (0,), {0: 0}]:
            self.assertIs(is_whole(thing), False)

    def test_below(self):
        for number in range(9):
            self.assertIs(is_below(number, 9), True)
        for thing in NO_NUMBERS:
            self.assertIs(is_below(thing, 9), False)
        self.assertIs(is_below(0, 0), False)


class SameTest(unittest.TestCase):
    def test_itself_alone(self):
        values = [None, 0, 1, "", "table", (), (0,), (1,), (0, 1), (0, None), ("table", ((0, 1), (None, 1))), nested(8)]
        for thing in values:
            for expected in values:
                self.assertIs(is_same(thing, expected), repr(thing) == repr(expected), (thing, expected))

    def test_no_bool_in_the_place_of_a_number(self):
        self.assertIs(is_same(True, 1), False)
        self.assertIs(is_same(False, 0), False)
        self.assertIs(is_same((0, True), (0, 1)), False)
        self.assertIs(is_same(((False, 1),), ((0, 1),)), False)

    def test_other_kinds(self):
        expected = ("table", ((0, 1), (0, 1)))
        for thing in ODD_THINGS + [list(expected), ("table", [(0, 1), (0, 1)]), ("table", ((0, 1), [0, 1]))]:
            self.assertIs(is_same(thing, expected), False)


if __name__ == "__main__":
    unittest.main()
