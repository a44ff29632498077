"""Point [22]."""

import itertools
import unittest

from leastlays.caps import free
from leastlays.finding import least
from leastlays.joining import beside, dropped, turned
from tests.helper import BOXES, MANY, box, is_vector, units


def free_least(rows, width):
    """The least answers of the rows without caps."""
    return least(rows, free(width), 2000)[0]


class Beside(unittest.TestCase):
    def test_by_hand(self):
        self.assertEqual(beside(((1, 2), (3, 0)), 2, ((4,), (5,)), 1), ((0, 0, 4), (0, 0, 5), (1, 2, 0), (3, 0, 0)))

    def test_rising_whatever_the_order(self):
        for one in itertools.permutations(((1, 2), (3, 0), (0, 7))):
            for other in itertools.permutations(((4,), (5,))):
                self.assertEqual(beside(one, 2, other, 1), ((0, 0, 4), (0, 0, 5), (0, 7, 0), (1, 2, 0), (3, 0, 0)))

    def test_either_empty(self):
        for width in range(1, 8):
            for more in range(1, 9 - width):
                told = tuple(sorted(units(width)))
                self.assertEqual(beside((), width, (), more), ())
                self.assertEqual(beside(told, width, (), more), tuple([one + (0,) * more for one in told]))
                self.assertEqual(beside((), more, told, width), tuple([(0,) * more + one for one in told]))

    def test_widths_that_come_to_eight(self):
        for width in range(1, 8):
            first = tuple(sorted(units(width)))
            second = tuple(sorted(units(8 - width)))
            self.assertEqual(beside(first, width, second, 8 - width), tuple(sorted(units(8))))

    def test_each_once(self):
        self.assertEqual(beside(((0, 0), (1, 0)), 2, ((0,), (1,)), 1), ((0, 0, 0), (0, 0, 1), (1, 0, 0)))
        self.assertEqual(beside(((1,), (1,)), 1, ((2,), (2,)), 1), ((0, 2), (1, 0)))

    def test_great_numbers(self):
        self.assertEqual(beside(((MANY,),), 1, ((MANY,),), 1), ((0, MANY), (MANY, 0)))

    def test_least_answers_of_two_systems(self):
        for (rows, tops), (others, more) in itertools.product(BOXES, repeat=2):
            width = len(tops)
            if width + len(more) > 6:
                continue
            joined = tuple([row + (0,) * len(more) for row in rows] + [(0,) * width + row for row in others])
            told = beside(free_least(rows, width), width, free_least(others, len(more)), len(more))
            self.assertEqual(told, free_least(joined, width + len(more)))


class Dropped(unittest.TestCase):
    def test_by_hand(self):
        told = ((0, 1, 2), (1, 0, 3), (2, 2, 0), (0, 0, 5))
        self.assertEqual(dropped(told, 0), ((0, 5), (1, 2)))
        self.assertEqual(dropped(told, 1), ((0, 5), (1, 3)))
        self.assertEqual(dropped(told, 2), ((2, 2),))

    def test_of_none(self):
        for j in range(8):
            self.assertEqual(dropped((), j), ())

    def test_of_width_two_at_first_and_last(self):
        self.assertEqual(dropped(((0, 3), (1, 1), (2, 0)), 0), ((3,),))
        self.assertEqual(dropped(((0, 3), (1, 1), (2, 0)), 1), ((2,),))
        self.assertEqual(dropped(((0, 3), (0, 0), (0, 1)), 0), ((0,), (1,), (3,)))

    def test_first_and_last_of_eight(self):
        told = tuple([(k, 1, 2, 3, 4, 5, 6, 1 - k) for k in (1, 0)])
        self.assertEqual(dropped(told, 0), ((1, 2, 3, 4, 5, 6, 1),))
        self.assertEqual(dropped(told, 7), ((1, 1, 2, 3, 4, 5, 6),))

    def test_none_has_nought_there(self):
        self.assertEqual(dropped(((1, 0), (MANY, 0)), 0), ())

    def test_rising_and_each_once(self):
        for some in itertools.permutations(((0, 5, 1), (0, 1, 5), (0, 1, 5), (0, 3, 3))):
            self.assertEqual(dropped(some, 0), ((1, 5), (3, 3), (5, 1)))

    def test_least_answers_without_that_column(self):
        for rows, tops in BOXES:
            width = len(tops)
            for j in range(width if width > 1 else 0):
                fewer = tuple([row[:j] + row[j + 1:] for row in rows])
                self.assertEqual(dropped(free_least(rows, width), j), free_least(fewer, width - 1))


class Turned(unittest.TestCase):
    def test_as_it_stands_and_turned_about(self):
        told = ((0, 1, 2), (1, 0, 3), (2, 2, 0))
        self.assertEqual(turned(told, (0, 1, 2)), told)
        self.assertEqual(turned(told[::-1], (0, 1, 2)), told)
        self.assertEqual(turned(told, (2, 1, 0)), ((0, 2, 2), (2, 1, 0), (3, 0, 1)))

    def test_one_that_is_not_its_own_opposite(self):
        # At place 0 what stood at place 1, at place 1 what stood at place 2, at place 2 what stood at place 0.
        self.assertEqual(turned(((7, 8, 9),), (1, 2, 0)), ((8, 9, 7),))
        self.assertEqual(turned(((7, 8, 9),), (2, 0, 1)), ((9, 7, 8),))
        self.assertEqual(turned(((7, 8, 9), (1, 2, 3)), (1, 2, 0)), ((2, 3, 1), (8, 9, 7)))
        self.assertEqual(turned(((1, 2, 3, 4),), (3, 0, 1, 2)), ((4, 1, 2, 3),))

    def test_of_none_and_of_width_one(self):
        self.assertEqual(turned((), (1, 0)), ())
        self.assertEqual(turned((), (0,)), ())
        self.assertEqual(turned(((5,), (3,)), (0,)), ((3,), (5,)))

    def test_all_orders_of_three(self):
        told = box(3, 2)[::2]
        for order in itertools.permutations(range(3)):
            want = {tuple([one[order[i]] for i in range(3)]) for one in told}
            self.assertEqual(turned(told, order), tuple(sorted(want)))

    def test_each_once(self):
        self.assertEqual(turned(((1, 2), (1, 2), (2, 1)), (1, 0)), ((1, 2), (2, 1)))

    def test_least_answers_with_columns_so_turned(self):
        for rows, tops in BOXES:
            width = len(tops)
            for order in list(itertools.permutations(range(width)))[:24]:
                other = tuple([tuple([row[j] for j in order]) for row in rows])
                self.assertEqual(turned(free_least(rows, width), order), free_least(other, width))


class Kinds(unittest.TestCase):
    def test_tuples_of_vectors(self):
        told = ((0, 1), (1, 0))
        for some, width in ((beside(told, 2, told, 2), 4), (dropped(told, 1), 1), (turned(told, (1, 0)), 2)):
            self.assertIs(type(some), tuple)
            self.assertTrue(all(is_vector(one, width) for one in some))


if __name__ == "__main__":
    unittest.main()
