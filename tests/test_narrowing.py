"""Points [20] and [21], and [3] (f)."""

import itertools
import unittest

from leastlays.caps import free
from leastlays.errors import LayError, TooMany
from leastlays.finding import least
from leastlays.narrowing import by_rows, narrowed
from tests.helper import BOXES, MANY, box, is_vector, least_among, long_levels, long_sums, together, units

# Told ones, a row, and the number up to which all counts are gone through: all least counts lie among these.
NARROWED = (
    (((1,),), (0,), 2),
    (((1,),), (3,), 2),
    (((2,), (3,)), (0,), 2),
    (((2,), (3,)), (1,), 2),
    (((1, 0), (0, 1)), (2, -3), 4),
    (((1, 0), (0, 1), (1, 1)), (0, 0), 2),
    (((1, 0), (0, 1), (1, 1)), (1, -1), 3),
    (((1, 0), (0, 1), (1, 2), (2, 1)), (1, -1), 2),
    (((1, 0), (0, 1), (1, 2), (2, 1)), (2, -1), 4),
    (((3, 0), (0, 2), (1, 1)), (1, -2), 4),
    (((0, 2, 1), (1, 1, 1), (2, 0, 1)), (1, -1, 0), 3),
    (((0, 2, 1), (1, 1, 1), (2, 0, 1)), (1, 1, 1), 2),
    (((0, 2, 1), (1, 1, 1), (2, 0, 1)), (0, 0, 0), 2),
    (((1, 0, 0, 1), (0, 1, 1, 0), (1, 0, 1, 0), (0, 1, 0, 1)), (1, -1, 0, 0), 2),
    (((1, 0, 0, 1), (0, 1, 1, 0), (1, 0, 1, 0), (0, 1, 0, 1)), (MANY, -MANY, 0, 0), 2),
    (((2, 2), (1, 0), (0, 1)), (1, -1), 3),
)


def row_sums(told, row):
    """The sums of the row at each told one."""
    return tuple([long_sums((row,), one)[0] for one in told])


def long_narrowed(told, row, top):
    """Point [20] by going through all counts up to top."""
    totals = row_sums(told, row)
    right = [counts for counts in box(len(told), top) if any(counts) and long_sums((totals,), counts) == [0]]
    first = {}
    for counts in least_among(right):
        parts = [one for one, many in zip(told, counts) for again in range(many)]
        first.setdefault(together(len(row), parts), counts)
    found = least_among(list(first))
    return found, tuple([first[one] for one in found])


class Narrowed(unittest.TestCase):
    def refused(self, told, row, most):
        with self.assertRaises(TooMany) as caught:
            narrowed(told, row, most)
        self.assertIsInstance(caught.exception, LayError)

    def test_of_none(self):
        for width in range(1, 9):
            for most in (0, 1, 2000):
                self.assertEqual(narrowed((), (1,) * width, most), ((), ()))
                self.assertEqual(narrowed((), (0,) * width, most), ((), ()))

    def test_by_going_through_counts(self):
        for told, row, top in NARROWED:
            self.assertEqual(narrowed(told, row, 2000), long_narrowed(told, row, top), (told, row))

    def test_in_another_order(self):
        for told, row, top in NARROWED:
            self.assertEqual(narrowed(told[::-1], row, 2000), long_narrowed(told[::-1], row, top), (told, row))

    def test_sums_all_nought(self):
        self.assertEqual(narrowed(((0, 2), (1, 1), (2, 0)), (0, 0), 3),
                         (((0, 2), (1, 1), (2, 0)), ((1, 0, 0), (0, 1, 0), (0, 0, 1))))

    def test_sums_all_above_or_all_below(self):
        for row in ((1, 2), (-1, -2)):
            self.assertEqual(narrowed(((0, 2), (1, 1), (2, 0)), row, 3), ((), ()))
            self.refused(((0, 2), (1, 1), (2, 0)), row, 2)

    def test_sums_of_both_kinds(self):
        self.assertEqual(narrowed(((0, 1), (1, 0)), (2, -3), 6), (((3, 2),), ((2, 3),)))
        self.refused(((0, 1), (1, 0)), (2, -3), 5)

    def test_some_that_stand_for_greater_vectors_are_left_out(self):
        # (1, 1), (2, 2), (2, 2) and (3, 3) come of the least counts.
        self.assertEqual(narrowed(((1, 0), (0, 1), (1, 2), (2, 1)), (1, -1), 2000), (((1, 1),), ((1, 1, 0, 0),)))

    def test_the_first_of_several_counts(self):
        told = ((1, 0, 0, 1), (0, 1, 1, 0), (1, 0, 1, 0), (0, 1, 0, 1))
        # (1, 1, 1, 1) stands for the first two and for the last two.
        self.assertEqual(narrowed(told, (1, -1, 0, 0), 2000), (
            ((1, 1, 0, 2), (1, 1, 1, 1), (1, 1, 2, 0)), ((1, 0, 0, 1), (0, 0, 1, 1), (0, 1, 1, 0))))

    def test_more_than_eight_told_ones(self):
        told = least(((1, 1, 1, -1, -1, -1),), free(6), 2000)[0]
        self.assertEqual(len(told), 9)
        for row in ((1, -1, 0, 0, 0, 0), (1, 0, 0, -1, 0, 0), (0, 0, 0, 0, 0, 0), (1, 1, -2, 1, -1, 0), (1,) * 6):
            found, counts = narrowed(told, row, 2000)
            self.assertEqual(found, least(((1, 1, 1, -1, -1, -1), row), free(6), 2000)[0])
            self.check_counts(told, row, found, counts)

    def check_counts(self, told, row, found, counts):
        """The counts are least ones and stand for the found ones."""
        least_counts = least((row_sums(told, row),), free(len(told)), 2000)[0]
        self.assertEqual(len(found), len(counts))
        for one, many in zip(found, counts):
            stands = [other for other in least_counts if self.stands_for(told, other) == one]
            self.assertEqual(many, stands[0])

    def stands_for(self, told, counts):
        """The told ones times the counts together."""
        return together(len(told[0]), [one for one, many in zip(told, counts) for again in range(many)])

    def test_many_told_ones(self):
        told = ((0, 1, 0, 0),) + tuple([(1, 0, k, 300 - k) for k in range(250)])
        found, counts = narrowed(told, (1, -1, 0, 0), 501)
        self.assertEqual(found, tuple([(1, 1, k, 300 - k) for k in range(250)]))
        self.assertEqual(counts, tuple([(1,) + one for one in units(250)]))
        self.refused(told, (1, -1, 0, 0), 500)
        found, counts = narrowed(told, (0, 0, 0, 0), 251)
        self.assertEqual((found, counts), (told, tuple(units(251))))
        self.refused(told, (1, -20, 0, 0), 2000)

    def test_just_so_many_as_the_walk_has_and_one_fewer(self):
        for told, row, top in NARROWED:
            totals = row_sums(told, row)
            many = sum([len(level) for level in long_levels((totals,), free(len(told)), 10 ** 6)])
            self.assertEqual(narrowed(told, row, many), narrowed(told, row, 2000))
            self.refused(told, row, many - 1)
            self.refused(told, row, 0)

    def test_great_sums(self):
        self.refused(((1, 0), (0, 1)), (MANY, 1 - MANY), 2000)
        self.assertEqual(narrowed(((MANY, 0), (0, MANY)), (MANY, -MANY), 3), (((MANY, MANY),), ((1, 1),)))

    def test_of_least_answers_those_of_that_row_too(self):
        for rows, tops in BOXES:
            for k in range(len(rows)):
                others = rows[:k] + rows[k + 1:]
                told = least(others, free(len(tops)), 2000)[0]
                found, counts = narrowed(told, rows[k], 2000)
                self.assertEqual(found, least(rows, free(len(tops)), 2000)[0])
                for one, many in zip(found, counts):
                    self.assertEqual(self.stands_for(told, many), one)

    def test_kinds(self):
        for told, row, top in NARROWED:
            answer = narrowed(told, row, 2000)
            self.assertIs(type(answer), tuple)
            self.assertEqual((len(answer), type(answer[0]), type(answer[1])), (2, tuple, tuple))
            self.assertTrue(all(is_vector(one, len(row)) for one in answer[0]))
            self.assertTrue(all(is_vector(one, len(told)) for one in answer[1]))


class ByRows(unittest.TestCase):
    def test_without_rows_the_units_alone(self):
        for width in range(1, 9):
            for most in (0, 2000):
                self.assertEqual(by_rows((), width, most), (tuple(sorted(units(width))),))

    def test_each_step_the_least_answers_of_the_rows_so_far(self):
        for rows, tops in BOXES:
            told = by_rows(rows, len(tops), 2000)
            self.assertIs(type(told), tuple)
            self.assertEqual(len(told), len(rows) + 1)
            for k in range(len(told)):
                self.assertEqual(told[k], least(rows[:k], free(len(tops)), 2000)[0])

    def test_each_step_is_what_narrowed_finds(self):
        for rows, tops in BOXES:
            told = by_rows(rows, len(tops), 2000)
            for ahead, row, found in zip(told, rows, told[1:]):
                self.assertEqual(narrowed(ahead, row, 2000)[0], found)

    def test_in_any_order_the_same_at_last(self):
        for rows, tops in BOXES:
            last = least(rows, free(len(tops)), 2000)[0]
            for order in itertools.permutations(rows):
                self.assertEqual(by_rows(order, len(tops), 2000)[-1], last)

    def test_six_rows(self):
        rows = tuple([tuple([(j == k) - (j == k + 1) for j in range(7)]) for k in range(6)])
        for order in (rows, rows[::-1], rows[1::2] + rows[::2]):
            self.assertEqual(by_rows(order, 7, 2000)[-1], ((1,) * 7,))

    def test_once_empty_empty_ever_after(self):
        self.assertEqual(by_rows(((1, 1), (1, -1), (0, 0)), 2, 2000), (((0, 1), (1, 0)), (), (), ()))

    def test_too_many(self):
        # Behind the units the walk of the row (2, -3) has 6 vectors, and that of the one sum 0 has 1.
        self.assertEqual(by_rows(((2, -3), (4, -6)), 2, 6), (((0, 1), (1, 0)), ((3, 2),), ((3, 2),)))
        for rows, most in ((((2, -3), (4, -6)), 5), (((0, 0), (2, -3)), 5), (((0, 0), (2, -3)), 1), (((1, 1),), 0)):
            with self.assertRaises(TooMany) as caught:
                by_rows(rows, 2, most)
            self.assertIsInstance(caught.exception, LayError)

    def test_too_many_behind_a_later_row_alone(self):
        rows = ((1, 1, -1, -1), (5, 0, -7, 0))
        self.assertEqual(len(by_rows(rows[:1], 4, 8)[-1]), 4)
        with self.assertRaises(TooMany):
            by_rows(rows, 4, 8)


if __name__ == "__main__":
    unittest.main()
