"""Points [4] and [5]."""

import itertools
import unittest

from leastlays.vectors import above_any, below, least_of, minus, nought, plus, size, times, unit
from tests.helper import MANY, box, is_vector, long_below

SOME = ((0, 0, 0), (1, 0, 2), (5, 7, 1), (2000, 0, 3), (MANY, MANY, MANY), (0, MANY, 1))


class Below(unittest.TestCase):
    def test_each_is_below_itself(self):
        for one in SOME + box(3, 2):
            self.assertIs(below(one, one), True)

    def test_nought_is_below_each(self):
        for one in SOME + box(3, 2):
            self.assertIs(below((0, 0, 0), one), True)
            self.assertIs(below(one, (0, 0, 0)), one == (0, 0, 0))

    def test_greater_at_one_place_alone(self):
        for width in range(1, 9):
            low = (3,) * width
            for j in range(width):
                high = low[:j] + (4,) + low[j + 1:]
                self.assertIs(below(low, high), True)
                self.assertIs(below(high, low), False)
                # All else far less does not make up for it.
                less = (0,) * j + (4,) + (0,) * (width - j - 1)
                self.assertIs(below(less, low), False)

    def test_beside_one_another(self):
        self.assertIs(below((1, 0), (0, 1)), False)
        self.assertIs(below((0, 1), (1, 0)), False)
        self.assertIs(below((0, 9), (5, 1)), False)

    def test_great_numbers(self):
        self.assertIs(below((MANY - 1, MANY), (MANY, MANY)), True)
        self.assertIs(below((MANY, MANY), (MANY, MANY - 1)), False)

    def test_all_small_pairs(self):
        for one in box(3, 2):
            for other in box(3, 2):
                self.assertIs(below(one, other), long_below(one, other))


class Reckoning(unittest.TestCase):
    def test_plus(self):
        self.assertEqual(plus((1, 2, 3), (10, 0, 5)), (11, 2, 8))
        self.assertEqual(plus((4,), (0,)), (4,))
        self.assertEqual(plus((MANY, 0), (MANY, 1)), (2 * MANY, 1))

    def test_minus(self):
        self.assertEqual(minus((11, 2, 8), (10, 0, 5)), (1, 2, 3))
        self.assertEqual(minus((MANY, 7), (1, 7)), (MANY - 1, 0))

    def test_minus_undoes_plus(self):
        for one in SOME:
            for other in SOME:
                self.assertEqual(minus(plus(one, other), one), other)
                self.assertEqual(minus(plus(one, other), other), one)
                self.assertEqual(plus(one, other), plus(other, one))

    def test_minus_itself_is_nought(self):
        for one in SOME:
            self.assertEqual(minus(one, one), (0, 0, 0))

    def test_times(self):
        self.assertEqual(times(3, (1, 0, 7)), (3, 0, 21))
        self.assertEqual(times(MANY, (2, 0, MANY)), (2 * MANY, 0, MANY * MANY))
        for one in SOME:
            self.assertEqual(times(0, one), (0, 0, 0))
            self.assertEqual(times(1, one), one)
            added = (0, 0, 0)
            for many in range(1, 12):
                added = plus(added, one)
                self.assertEqual(times(many, one), added)

    def test_size(self):
        self.assertEqual(size((0,)), 0)
        self.assertEqual(size((5, 7, 1)), 13)
        self.assertEqual(size((MANY,) * 8), 8 * MANY)
        self.assertIs(type(size((0, 1))), int)

    def test_nought_and_unit_of_each_width(self):
        for width in range(1, 9):
            self.assertEqual(nought(width), (0,) * width)
            self.assertTrue(is_vector(nought(width), width))
            for j in range(width):
                one = unit(width, j)
                self.assertTrue(is_vector(one, width))
                self.assertEqual(one[j], 1)
                self.assertEqual(size(one), 1)

    def test_numbers_told_are_no_truths(self):
        for one in SOME:
            for told in (plus(one, one), minus(one, one), times(0, one), times(1, one), times(5, one)):
                self.assertTrue(is_vector(told, 3), told)


def long_least(some):
    """Point [5] word by word."""
    left = [one for one in set(some) if not any(other != one and long_below(other, one) for other in some)]
    return tuple(sorted(left))


class Least(unittest.TestCase):
    def test_of_none(self):
        self.assertEqual(least_of(()), ())

    def test_of_one(self):
        for one in SOME + ((4,), (0,)):
            self.assertEqual(least_of((one,)), (one,))

    def test_of_one_twice(self):
        self.assertEqual(least_of(((2, 1), (2, 1))), ((2, 1),))
        self.assertEqual(least_of(((2, 1), (1, 2), (2, 1), (1, 2))), ((1, 2), (2, 1)))

    def test_one_above_another(self):
        chain = ((1, 1), (1, 2), (2, 2), (3, 9))
        for some in itertools.permutations(chain):
            self.assertEqual(least_of(some), ((1, 1),))

    def test_none_below_another(self):
        apart = ((0, 3), (1, 2), (2, 1), (3, 0))
        for some in itertools.permutations(apart):
            self.assertEqual(least_of(some), apart)

    def test_nought_leaves_itself_alone(self):
        self.assertEqual(least_of(((1, 0), (0, 0), (0, 1))), ((0, 0),))

    def test_mixed_in_any_order(self):
        mixed = ((0, 2, 1), (1, 0, 0), (0, 2, 2), (0, 0, 9), (1, 0, 9))
        for some in itertools.permutations(mixed):
            self.assertEqual(least_of(some), ((0, 0, 9), (0, 2, 1), (1, 0, 0)))

    def test_great_numbers(self):
        some = ((MANY, 0), (MANY - 1, 1), (MANY, 1), (0, MANY))
        self.assertEqual(least_of(some), ((0, MANY), (MANY - 1, 1), (MANY, 0)))

    def test_all_small_triples(self):
        for some in itertools.product(box(2, 2), repeat=3):
            self.assertEqual(least_of(some), long_least(some))

    def test_three_hundred(self):
        some = tuple([((k * 7) % 31, (k * 11) % 29, (k * 13) % 37) for k in range(1, 301)])
        self.assertEqual(least_of(some), long_least(some))
        self.assertGreater(len(least_of(some)), 1)

    def test_more_than_three_hundred_are_not_refused(self):
        some = tuple([(k, 400 - k) for k in range(401)])
        self.assertEqual(least_of(some[::-1] + some), some)

    def test_told_vectors_are_tuples_of_whole_numbers(self):
        told = least_of(((1, 0), (0, 1), (1, 1)))
        self.assertIs(type(told), tuple)
        self.assertTrue(all(is_vector(one, 2) for one in told))


class AboveAny(unittest.TestCase):
    def test_of_none(self):
        self.assertIs(above_any((), (0, 0)), False)
        self.assertIs(above_any((), (5, 5)), False)

    def test_itself_among_them(self):
        self.assertIs(above_any(((9, 0), (2, 3)), (2, 3)), True)
        self.assertIs(above_any(((2, 3), (9, 0)), (2, 3)), True)

    def test_above_first_middle_and_last(self):
        some = ((9, 0, 0), (0, 9, 0), (0, 0, 9))
        for one in some:
            self.assertIs(above_any(some, plus(one, (1, 1, 1))), True)

    def test_beside(self):
        self.assertIs(above_any(((9, 0), (0, 9)), (8, 8)), False)
        self.assertIs(above_any(((1, 0),), (0, 7)), False)

    def test_being_below_them_does_not_count(self):
        self.assertIs(above_any(((2, 2), (3, 1)), (1, 1)), False)

    def test_nought_is_below_each(self):
        self.assertIs(above_any(((5, 5), (0, 0)), (0, 0)), True)

    def test_great_numbers(self):
        self.assertIs(above_any(((MANY, 0),), (MANY - 1, 5)), False)
        self.assertIs(above_any(((MANY, 0),), (MANY, 5)), True)


if __name__ == "__main__":
    unittest.main()
