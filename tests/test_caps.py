"""Point [9]."""

import itertools
import unittest

from leastlays.caps import free, within
from tests.helper import MANY, box, long_within


class Free(unittest.TestCase):
    def test_of_each_width(self):
        for width in range(1, 9):
            told = free(width)
            self.assertIs(type(told), tuple)
            self.assertEqual(len(told), width)
            self.assertTrue(all(cap is None for cap in told))

    def test_each_vector_is_within(self):
        for width in range(1, 9):
            for number in (0, 1, MANY, MANY ** 3):
                self.assertIs(within(free(width), (number,) * width), True)


class Within(unittest.TestCase):
    def test_at_a_cap_above_it_and_below_it(self):
        for width in range(1, 9):
            for cap in (1, 2, 7, MANY):
                caps = (cap,) * width
                self.assertIs(within(caps, caps), True)
                for j in range(width):
                    self.assertIs(within(caps, caps[:j] + (cap - 1,) + caps[j + 1:]), True)
                    self.assertIs(within(caps, caps[:j] + (cap + 1,) + caps[j + 1:]), False)
                    # All else far below does not make up for it.
                    self.assertIs(within(caps, (0,) * j + (cap + 1,) + (0,) * (width - j - 1)), False)

    def test_none_at_one_place_lets_that_place_alone(self):
        for width in range(1, 9):
            for j in range(width):
                caps = (3,) * j + (None,) + (3,) * (width - j - 1)
                self.assertIs(within(caps, (3,) * j + (MANY,) + (3,) * (width - j - 1)), True)
                for other in range(width):
                    one = tuple([4 if k == other else 0 for k in range(width)])
                    self.assertIs(within(caps, one), other == j)

    def test_a_cap_of_nought_is_a_cap(self):
        for width in range(1, 9):
            self.assertIs(within((0,) * width, (0,) * width), True)
            for j in range(width):
                caps = (None,) * j + (0,) + (None,) * (width - j - 1)
                self.assertIs(within(caps, (5,) * j + (0,) + (5,) * (width - j - 1)), True)
                self.assertIs(within(caps, (0,) * j + (1,) + (0,) * (width - j - 1)), False)

    def test_nought_is_within_all(self):
        for caps in itertools.product((None, 0, 1), repeat=3):
            self.assertIs(within(caps, (0, 0, 0)), True)

    def test_all_small(self):
        for caps in itertools.product((None, 0, 1, 2), repeat=3):
            for one in box(3, 3):
                self.assertIs(within(caps, one), long_within(caps, one), (caps, one))


if __name__ == "__main__":
    unittest.main()
