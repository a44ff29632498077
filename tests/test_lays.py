"""Points [14] and [15], and [3] (b)."""

import copy
import itertools
import unittest

from leastlays.caps import free
from leastlays.errors import LayError, NoLay, TooMany
from leastlays.finding import least
from leastlays.lays import fewest, is_lay, laid, lays
from tests.helper import BOXES, MANY, PARTS, box, capped_box, is_vector, long_answer, long_below, long_lays, units


def cases():
    """Told ones and vectors of their width, small ones."""
    told = []
    for parts in PARTS:
        width = len(parts[0]) if parts else 2
        tops = {1: 24, 2: 6, 3: 4, 4: 3}
        told.extend([(parts, one) for one in box(width, tops[width])])
    return told


def long_laid(told, one):
    """The counts by taking one by one, or None where something is left."""
    left = list(one)
    counts = []
    for part in told:
        many = 0
        while long_below(part, left):
            left = [a - b for a, b in zip(left, part)]
            many += 1
        counts.append(many)
    return None if any(left) else tuple(counts)


def pairs(width):
    """All sums of two unlike units, rising."""
    return tuple(sorted([tuple([a + b for a, b in zip(*two)]) for two in itertools.combinations(units(width), 2)]))


class IsLay(unittest.TestCase):
    # The lays of ONE in TOLD are (0, 0, 2), (1, 1, 1) and (2, 2, 0).
    TOLD = ((2, 1), (1, 2), (3, 3))
    ONE = (6, 6)

    def test_right_ones(self):
        for counts in ((0, 0, 2), (1, 1, 1), (2, 2, 0)):
            self.assertIs(is_lay(self.TOLD, self.ONE, counts), True)

    def test_that_do_not_come_to_it(self):
        for counts in itertools.product(range(4), repeat=3):
            self.assertIs(is_lay(self.TOLD, self.ONE, counts), counts in ((0, 0, 2), (1, 1, 1), (2, 2, 0)))

    def test_fewer_and_more(self):
        for counts in ((), (2, 2), (0, 0), (2, 2, 0, 0), (1, 1, 1, 0), (0, 0, 2, 1), (2,)):
            self.assertIs(is_lay(self.TOLD, self.ONE, counts), False)

    def test_one_below_nought_that_comes_to_the_same(self):
        for counts in ((-1, -1, 3), (3, 3, -1), (4, 4, -2)):
            self.assertIs(is_lay(self.TOLD, self.ONE, counts), False)

    def test_of_anything(self):
        ring = []
        ring.append(ring)
        for thing in (
            None, True, False, 0, 1, 2, -1, 0.5, "", "002", b"", [], [0, 0, 2], {}, {0: 1}, set(), {0, 2}, int,
            object(), (True, True, True), (1, 1, True), (False, 0, 2), (0, False, 2), ("1", "1", "1"), (1, 1, "1"),
            (1, 1, None), (None, None, None), ((1,), (1,), (1,)), ((1, 1, 1),), [(1, 1, 1)], (1, 1, [1]), (1, 1, {}),
            (1, 1, 1.0), (1.0, 1.0, 1.0), (1, 1, 1j), (0, 0, float("nan")), (1, 1, ()), ring, (ring,) * 3, range(3),
            iter((1, 1, 1)), (1, 1, object()), (1, 1, b"1"), (10 ** 5000, 0, 0), (-10 ** 5000, 0, 0),
        ):
            self.assertIs(is_lay(self.TOLD, self.ONE, thing), False)

    def test_in_none(self):
        self.assertIs(is_lay((), (0, 0), ()), True)
        self.assertIs(is_lay((), (0, 1), ()), False)
        for thing in (None, [], (0,), 0, ((),), "", {}, False):
            self.assertIs(is_lay((), (0, 0), thing), False)

    def test_of_nought(self):
        self.assertIs(is_lay(self.TOLD, (0, 0), (0, 0, 0)), True)
        for counts in ((0, 0), (0, 0, 1), (1, 1, -1), (False, False, False), ()):
            self.assertIs(is_lay(self.TOLD, (0, 0), counts), False)

    def test_great_numbers(self):
        self.assertIs(is_lay(((1, 2), (0, 1)), (MANY, 3 * MANY), (MANY, MANY)), True)
        self.assertIs(is_lay(((1, 2), (0, 1)), (MANY, 3 * MANY), (MANY, MANY - 1)), False)

    def test_all_small(self):
        for told, one in cases()[::3]:
            if len(told) < 4:
                right = long_lays(told, one)
                for counts in itertools.product(range(-1, 4), repeat=len(told)):
                    self.assertIs(is_lay(told, one, counts), counts in right)

    def test_nothing_is_changed(self):
        counts = [0, [1], {2: 3}]
        kept = copy.deepcopy(counts)
        is_lay(self.TOLD, self.ONE, counts)
        is_lay(self.TOLD, self.ONE, tuple(counts))
        self.assertEqual(counts, kept)


class Laid(unittest.TestCase):
    def test_the_first_as_often_as_it_stays_below(self):
        self.assertEqual(laid(((2, 1), (1, 2), (3, 3)), (5, 4)), (2, 1, 0))
        self.assertEqual(laid(((3, 3), (2, 1), (1, 2)), (6, 6)), (2, 0, 0))
        self.assertEqual(laid(((1, 1), (1, 0), (0, 1)), (3, 5)), (3, 0, 2))
        self.assertEqual(laid(((1, 0), (0, 1), (1, 1)), (3, 5)), (3, 5, 0))

    def test_all_small(self):
        for told, one in cases():
            counts = long_laid(told, one)
            if counts is None:
                with self.assertRaises(NoLay):
                    laid(told, one)
            else:
                self.assertEqual(laid(told, one), counts)
                self.assertTrue(is_vector(laid(told, one), len(told)))
                self.assertIs(is_lay(told, one, counts), True)

    def test_something_left(self):
        for told, one in (((), (1,)), ((), (0, 0, 1)), (((2,),), (3,)), (((1, 0),), (0, 1)), (((1, 1),), (2, 3))):
            with self.assertRaises(NoLay) as caught:
                laid(told, one)
            self.assertIsInstance(caught.exception, LayError)

    def test_refused_also_where_another_lay_would_have_come_out(self):
        # 6 is 3 and 3, but 4 is taken first and 2 is left.
        with self.assertRaises(NoLay):
            laid(((4,), (3,)), (6,))
        self.assertEqual(lays(((4,), (3,)), (6,), 1), ((0, 2),))
        with self.assertRaises(NoLay):
            laid(((1, 1), (2, 0), (0, 3)), (2, 3))
        self.assertIs(is_lay(((1, 1), (2, 0), (0, 3)), (2, 3), (0, 1, 1)), True)

    def test_of_nought(self):
        for width in range(1, 9):
            self.assertEqual(laid((), (0,) * width), ())
            self.assertEqual(laid(tuple(units(width)), (0,) * width), (0,) * width)

    def test_great_numbers(self):
        self.assertEqual(laid(((3, 1), (1, 0)), (MANY, 7)), (7, MANY - 21))
        self.assertEqual(laid(((1, 1), (0, 1)), (MANY, MANY ** 2)), (MANY, MANY ** 2 - MANY))

    def test_as_many_as_were_told(self):
        told = tuple([(k, 400 - k) for k in range(401)])
        self.assertEqual(laid(told, (0, 800)), (2,) + (0,) * 400)
        self.assertEqual(laid(told, (400, 0)), (0,) * 400 + (1,))

    def test_in_the_least_answers_every_answer_is_laid(self):
        for rows, tops in BOXES:
            for told in (least(rows, free(len(tops)), 2000)[0], least(rows, free(len(tops)), 2000)[0][::-1]):
                for one in capped_box(tops):
                    if long_answer(rows, one):
                        self.assertIs(is_lay(told, one, laid(told, one)), True)
                    else:
                        with self.assertRaises(NoLay):
                            laid(told, one)


class Lays(unittest.TestCase):
    def refused(self, told, one, most):
        with self.assertRaises(TooMany) as caught:
            lays(told, one, most)
        self.assertIsInstance(caught.exception, LayError)

    def test_rising_and_whole(self):
        for told, one in cases():
            found = long_lays(told, one)
            self.assertEqual(lays(told, one, 2000), found)
            self.assertEqual(found, tuple(sorted(found)))

    def test_most_just_their_number_and_one_fewer(self):
        for told, one in cases():
            found = long_lays(told, one)
            self.assertEqual(lays(told, one, len(found)), found)
            if found:
                self.refused(told, one, len(found) - 1)
                self.refused(told, one, 0)

    def test_of_nought_one(self):
        for told in PARTS:
            nought = (0,) * (len(told[0]) if told else 3)
            self.assertEqual(lays(told, nought, 1), ((0,) * len(told),))
            self.refused(told, nought, 0)

    def test_none_where_there_is_no_lay(self):
        for told, one in (((), (1,)), ((), (0, 60)), (((2,),), (59,)), (((4,), (6,)), (2,)), (((1, 0),), (30, 30))):
            self.assertEqual(lays(told, one, 0), ())
            self.assertEqual(lays(told, one, 2000), ())

    def test_the_order_of_the_told_ones_is_that_of_the_counts(self):
        self.assertEqual(lays(((1,), (2,)), (4,), 9), ((0, 2), (2, 1), (4, 0)))
        self.assertEqual(lays(((2,), (1,)), (4,), 9), ((0, 4), (1, 2), (2, 0)))

    def test_size_of_sixty(self):
        self.assertEqual(len(lays(((1,), (2,), (3,)), (60,), 331)), 331)
        self.refused(((1,), (2,), (3,)), (60,), 330)
        self.refused(tuple([(k,) for k in range(1, 41)]), (60,), 2000)
        self.assertEqual(lays(((30, 0), (0, 30), (30, 30)), (30, 30), 2), ((0, 0, 1), (1, 1, 0)))

    def test_many_told_ones_and_a_wide_vector(self):
        self.refused(pairs(8), (8, 8, 8, 8, 7, 7, 7, 7), 2000)
        # A vector of an odd size is no sum of vectors of the size 2.
        self.assertEqual(lays(pairs(8), (3, 3, 3, 2, 2, 2, 2, 2), 0), ())
        # Perfect pairings of eight places: 7 * 5 * 3.
        self.assertEqual(len(lays(pairs(8), (1,) * 8, 105)), 105)
        self.refused(pairs(8), (1,) * 8, 104)

    def test_somewhat_beyond_sixty_and_forty_is_not_refused(self):
        self.assertEqual(lays(((7,), (11,)), (77,), 2), ((0, 7), (11, 0)))
        # 60 itself, 20 and 40 up to 30 and 30, and 20 three times.
        self.assertEqual(len(lays(tuple([(k,) for k in range(20, 65)]), (60,), 2000)), 13)

    def test_kinds(self):
        for told, one in cases()[::5]:
            found = lays(told, one, 2000)
            self.assertIs(type(found), tuple)
            self.assertTrue(all(is_vector(counts, len(told)) for counts in found))


class Fewest(unittest.TestCase):
    def test_least_sum_and_first_of_several(self):
        for told, one in cases():
            found = long_lays(told, one)
            if found:
                self.assertEqual(fewest(told, one), min(found, key=lambda counts: (sum(counts), counts)))
            else:
                with self.assertRaises(NoLay) as caught:
                    fewest(told, one)
                self.assertIsInstance(caught.exception, LayError)

    def test_the_greedy_lay_is_not_the_one(self):
        self.assertEqual(laid(((4,), (3,), (1,)), (6,)), (1, 0, 2))
        self.assertEqual(fewest(((4,), (3,), (1,)), (6,)), (0, 2, 0))

    def test_the_first_as_they_rise(self):
        self.assertEqual(fewest(((1, 1), (2, 0), (0, 2)), (2, 2)), (0, 1, 1))
        self.assertEqual(fewest(((2, 0), (0, 2), (1, 1)), (2, 2)), (0, 0, 2))
        self.assertEqual(fewest(((1,), (5,), (3,), (4,), (2,)), (6,)), (0, 0, 0, 1, 1))

    def test_of_nought(self):
        for told in PARTS:
            nought = (0,) * (len(told[0]) if told else 3)
            self.assertEqual(fewest(told, nought), (0,) * len(told))

    def test_none(self):
        for told, one in (((), (1,)), (((2,),), (59,)), (((4,), (6,)), (2,)), (((1, 0),), (30, 30))):
            with self.assertRaises(NoLay):
                fewest(told, one)

    def test_size_of_sixty(self):
        told = tuple([(k,) for k in range(1, 41)])
        self.assertEqual(fewest(told, (60,)), (0,) * 29 + (2,) + (0,) * 10)
        self.assertEqual(sum(fewest(pairs(8), (8, 8, 8, 8, 7, 7, 7, 7))), 30)
        self.assertEqual(fewest(((1,),), (60,)), (60,))

    def test_somewhat_beyond_is_not_refused(self):
        self.assertEqual(fewest(((7,), (11,)), (77,)), (0, 7))

    def test_kinds(self):
        for told, one in cases()[::5]:
            if long_lays(told, one):
                self.assertTrue(is_vector(fewest(told, one), len(told)))


if __name__ == "__main__":
    unittest.main()
