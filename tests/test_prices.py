"""Point [23], and [3] (g)."""

import itertools
import unittest

from leastlays.caps import free
from leastlays.finding import least
from leastlays.prices import cheapest, cost
from leastlays.sides import beyond
from tests.helper import BOXES, MANY, SIDED, box, capped_box, is_vector, long_answer, to_sides

# Prices for up to eight unknowns: like, unlike, some or all 0, great.
PRICES = (
    (1, 1, 1, 1, 1, 1, 1, 1),
    (0, 0, 0, 0, 0, 0, 0, 0),
    (3, 1, 4, 1, 5, 9, 2, 6),
    (0, 7, 0, 2, 0, 1, 3, 0),
    (9, 0, 1, 0, 0, 0, 0, 5),
    (MANY, 1, MANY - 1, 0, MANY, 2, MANY, 1),
)


def long_cost(prices, one):
    """The numbers times their prices, added up one by one."""
    told = 0
    for j in range(len(one)):
        told += prices[j] * one[j]
    return told


class Cost(unittest.TestCase):
    def test_by_hand(self):
        self.assertEqual(cost((2, 3), (5, 7)), 31)
        self.assertEqual(cost((4,), (6,)), 24)
        self.assertEqual(cost((1, 10, 100), (3, 2, 1)), 123)

    def test_prices_of_nought(self):
        self.assertEqual(cost((0, 0, 0), (5, 7, MANY)), 0)
        self.assertEqual(cost((0, 3, 0), (5, 7, MANY)), 21)

    def test_nought(self):
        for prices in PRICES:
            self.assertEqual(cost(prices, (0,) * 8), 0)

    def test_great_prices(self):
        self.assertEqual(cost((MANY,), (MANY,)), MANY * MANY)
        self.assertEqual(cost((MANY, 1, 0), (3, 4, 5)), 3 * MANY + 4)
        self.assertEqual(cost((MANY,) * 8, (MANY,) * 8), 8 * MANY * MANY)

    def test_added_up(self):
        for width in range(1, 5):
            for one in box(width, 3):
                for prices in PRICES:
                    told = cost(prices[:width], one)
                    self.assertEqual(told, long_cost(prices, one))
                    self.assertIs(type(told), int)


class Cheapest(unittest.TestCase):
    def test_of_none(self):
        for prices in ((0,), (3,), (1, 2), (MANY,) * 8):
            self.assertIsNone(cheapest((), prices))

    def test_of_one(self):
        self.assertEqual(cheapest(((2, 3),), (4, 5)), (23, (2, 3)))
        self.assertEqual(cheapest(((0, 0),), (4, 5)), (0, (0, 0)))

    def test_of_several(self):
        self.assertEqual(cheapest(((0, 4), (1, 1), (3, 0)), (5, 2)), (7, (1, 1)))
        self.assertEqual(cheapest(((0, 4), (1, 1), (3, 0)), (1, 9)), (3, (3, 0)))
        self.assertEqual(cheapest(((0, 4), (1, 1), (3, 0)), (9, 1)), (4, (0, 4)))

    def test_several_that_cost_the_same(self):
        some = ((0, 2), (1, 1), (2, 0))
        for told in itertools.permutations(some):
            self.assertEqual(cheapest(told, (1, 1)), (2, (0, 2)))
            self.assertEqual(cheapest(told, (1, 2)), (2, (2, 0)))
        for told in itertools.permutations(((0, 5, 0), (1, 1, 3), (1, 2, 1), (3, 0, 0))):
            self.assertEqual(cheapest(told, (2, 2, 1)), (6, (3, 0, 0)))
            self.assertEqual(cheapest(told, (3, 1, 1)), (5, (0, 5, 0)))
            self.assertEqual(cheapest(told, (1, 1, 0)), (2, (1, 1, 3)))
            self.assertEqual(cheapest(told, (2, 0, 1))[1], (0, 5, 0))

    def test_all_prices_nought(self):
        for told in itertools.permutations(((0, 2), (1, 1), (2, 0))):
            self.assertEqual(cheapest(told, (0, 0)), (0, (0, 2)))

    def test_one_twice(self):
        self.assertEqual(cheapest(((2, 0), (1, 1), (1, 1)), (1, 1)), (2, (1, 1)))

    def test_great_prices(self):
        self.assertEqual(cheapest(((1, MANY), (2, 0)), (MANY, MANY)), (2 * MANY, (2, 0)))
        self.assertEqual(cheapest(((MANY, 0), (0, MANY)), (MANY, MANY - 1)), (MANY * (MANY - 1), (0, MANY)))

    def test_kinds(self):
        told = cheapest(((2, 0), (1, 1)), (1, 1))
        self.assertIs(type(told), tuple)
        self.assertEqual(len(told), 2)
        self.assertIs(type(told[0]), int)
        self.assertTrue(is_vector(told[1], 2))

    def test_no_told_one_costs_less_and_none_ahead_as_much(self):
        for some in itertools.combinations(box(2, 2), 3):
            for prices in box(2, 2):
                told = cheapest(some, prices)
                self.assertEqual(told[0], long_cost(prices, told[1]))
                self.assertIn(told[1], some)
                for one in some:
                    self.assertLessEqual(told, (long_cost(prices, one), one))

    def none_costs_less(self, told, others, width):
        """None of the others costs less than the cheapest told one, which is there where there are others."""
        for prices in PRICES:
            found = cheapest(told, prices[:width])
            self.assertEqual(found is None, others == [])
            for one in others:
                self.assertLessEqual(found[0], long_cost(prices, one))

    def test_of_the_least_answers_no_answer_but_nought_costs_less(self):
        for rows, tops in BOXES:
            told = least(rows, free(len(tops)), 2000)[0]
            others = [one for one in capped_box(tops) if any(one) and long_answer(rows, one)]
            self.none_costs_less(told, others, len(tops))

    def test_of_the_least_answers_to_sides_no_answer_to_them_costs_less(self):
        for rows, sides, tops in SIDED:
            told = beyond(rows, sides, len(tops), 2000)[0]
            self.none_costs_less(told, to_sides(rows, sides, tops), len(tops))

    def test_of_the_least_answers_within_caps(self):
        for rows, tops in BOXES:
            for caps in (tops, tuple([top // 2 for top in tops])):
                told = least(rows, caps, 2000)[0]
                others = [one for one in capped_box(caps) if any(one) and long_answer(rows, one)]
                self.none_costs_less(told, others, len(tops))


if __name__ == "__main__":
    unittest.main()
