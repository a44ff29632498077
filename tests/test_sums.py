"""Points [6] and [7]."""

import unittest

from leastlays.sums import falls, is_answer, pull, sums
from tests.helper import (
    MANY, SYSTEMS, is_vector, long_answer, long_below, long_pull, long_sums, small_answers, small_vectors)


class Sums(unittest.TestCase):
    def test_no_rows(self):
        for one in ((0,), (5,), (1, 2, 3), (MANY,) * 8):
            self.assertEqual(sums((), one), ())

    def test_one_row(self):
        self.assertEqual(sums(((2, -3, 0),), (5, 1, 9)), (7,))
        self.assertEqual(sums(((-4,),), (3,)), (-12,))

    def test_one_to_six_rows_in_order(self):
        rows = ((1, 0), (0, 1), (1, 1), (-1, 1), (10, -10), (0, 0))
        told = (3, 8, 11, 5, -50, 0)
        for many in range(1, 7):
            self.assertEqual(sums(rows[:many], (3, 8)), told[:many])

    def test_great_numbers(self):
        self.assertEqual(sums(((MANY, -MANY), (-MANY, -MANY)), (MANY, MANY)), (0, -2 * MANY * MANY))
        self.assertEqual(sums(((MANY,) * 8,), (MANY,) * 8), (8 * MANY * MANY,))
        self.assertEqual(sums(((MANY, 1 - MANY),), (MANY, MANY)), (MANY,))

    def test_systems(self):
        for rows, width in SYSTEMS:
            for one in small_vectors(width):
                told = sums(rows, one)
                self.assertIs(type(told), tuple)
                self.assertEqual(list(told), long_sums(rows, one))
                self.assertTrue(all(type(part) is int for part in told))


class IsAnswer(unittest.TestCase):
    def test_nought_is_one(self):
        for rows, width in SYSTEMS:
            self.assertIs(is_answer(rows, (0,) * width), True)

    def test_with_no_rows_each_is_one(self):
        for one in ((0,), (7,), (1, 2, 3), (MANY, 0)):
            self.assertIs(is_answer((), one), True)

    def test_an_answer_and_one_number_off(self):
        for rows, one in (
            (((2, -3),), (3, 2)),
            (((3, 5, -7, 0),), (3, 1, 2, 4)),
            (((1, -1, 0), (0, 1, -1)), (6, 6, 6)),
            (((MANY, -MANY), (1, -1)), (MANY, MANY)),
        ):
            self.assertIs(is_answer(rows, one), True)
            for j in range(len(one)):
                bears = any(row[j] != 0 for row in rows)
                for step in (1, -1):
                    off = one[:j] + (one[j] + step,) + one[j + 1:]
                    self.assertIs(is_answer(rows, off), not bears)

    def test_one_row_that_does_not_come_to_nought_is_enough(self):
        rows = ((1, -1, 0), (0, 1, -1), (1, 0, -1))
        self.assertIs(is_answer(rows[:1], (1, 1, 0)), True)
        self.assertIs(is_answer(rows, (1, 1, 0)), False)
        self.assertIs(is_answer(((0, 0), (0, 1)), (5, 1)), False)
        self.assertIs(is_answer(((0, 1), (0, 0)), (5, 1)), False)

    def test_sums_that_only_make_up_for_each_other_do_not_count(self):
        self.assertIs(is_answer(((1, 0), (-1, 0)), (1, 0)), False)
        self.assertIs(is_answer(((1, 0), (0, -1)), (4, 4)), False)

    def test_systems(self):
        for rows, width in SYSTEMS:
            for one in small_vectors(width):
                self.assertIs(is_answer(rows, one), long_answer(rows, one))


class Pull(unittest.TestCase):
    def test_below_nought_nought_and_above(self):
        rows = ((2, -3, 0),)
        self.assertEqual([pull(rows, (1, 0, 0), j) for j in range(3)], [4, -6, 0])
        self.assertEqual([pull(rows, (0, 1, 0), j) for j in range(3)], [-6, 9, 0])
        self.assertEqual([pull(rows, (3, 2, 5), j) for j in range(3)], [0, 0, 0])

    def test_over_all_rows(self):
        rows = ((1, 2, -1), (3, -1, 1))
        # The sums at (1, 1, 0) are 3 and 2.
        self.assertEqual([pull(rows, (1, 1, 0), j) for j in range(3)], [9, 4, -1])

    def test_no_rows(self):
        for j in range(3):
            self.assertEqual(pull((), (1, 2, 3), j), 0)
            self.assertIs(type(pull((), (1, 2, 3), j)), int)

    def test_great_numbers(self):
        self.assertEqual(pull(((MANY, -MANY),), (MANY, 0), 1), -MANY ** 3)

    def test_systems(self):
        for rows, width in SYSTEMS:
            for one in small_vectors(width):
                for j in range(width):
                    self.assertEqual(pull(rows, one, j), long_pull(rows, one, j))


class Falls(unittest.TestCase):
    def test_below_nought_nought_and_above(self):
        self.assertEqual(falls(((2, -3, 0),), (1, 0, 0)), (1,))
        self.assertEqual(falls(((2, -3, 0),), (0, 1, 0)), (0,))
        self.assertEqual(falls(((1, -1, 2, 0, -2, -5),), (1, 0, 0, 0, 0, 0)), (1, 4, 5))
        self.assertEqual(falls(((1, -1, 2, 0, -2, -5),), (0, 0, 0, 0, 0, 1)), (0, 2))

    def test_first_and_last_place(self):
        self.assertEqual(falls(((-1, 1, -1),), (0, 1, 0)), (0, 2))

    def test_none_where_it_is_an_answer(self):
        for rows, width in SYSTEMS:
            for one in small_answers(rows, width):
                self.assertEqual(falls(rows, one), ())

    def test_none_with_no_rows(self):
        for one in ((0,), (3,), (1, 2, 3)):
            self.assertEqual(falls((), one), ())

    def test_no_answer_may_have_none(self):
        self.assertEqual(falls(((1, 2),), (1, 0)), ())

    def test_systems(self):
        for rows, width in SYSTEMS:
            for one in small_vectors(width):
                told = falls(rows, one)
                self.assertEqual(told, tuple([j for j in range(width) if long_pull(rows, one, j) < 0]))
                self.assertTrue(is_vector(told, len(told)))

    def test_below_an_answer_one_fall_is_less_than_it(self):
        for rows, width in SYSTEMS:
            found = small_answers(rows, width)[:40]
            for one in small_vectors(width):
                if long_answer(rows, one):
                    continue
                for answer in found:
                    if long_below(one, answer):
                        self.assertTrue(any(one[j] < answer[j] for j in falls(rows, one)))


if __name__ == "__main__":
    unittest.main()
