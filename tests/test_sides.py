"""Points [17], [18] and [19], and [3] (e)."""

import copy
import itertools
import unittest

from leastlays.caps import free
from leastlays.errors import LayError, NoLay, TooMany
from leastlays.finding import least
from leastlays.lays import is_lay
from leastlays.sides import beyond, laid_beyond, shows_beyond, sided
from tests.helper import (
    BOXES, MANY, SIDED, capped_box, is_vector, least_among, long_answer, long_least, long_levels, long_sums, to_sides,
    units)


def sided_case(rows, sides, width):
    """The sided rows and their caps, by the words of point [17]."""
    return tuple([tuple(row) + (0 - side,) for row, side in zip(rows, sides)]), (None,) * width + (1,)


class Sided(unittest.TestCase):
    def test_above_below_and_nought(self):
        self.assertEqual(sided(((1, 2), (3, 4), (5, 6)), (7, -8, 0)), ((1, 2, -7), (3, 4, 8), (5, 6, 0)))
        self.assertEqual(sided(((1,),), (-MANY,)), ((1, MANY),))
        self.assertEqual(sided(((0, 0, 0),), (MANY,)), ((0, 0, 0, -MANY),))

    def test_no_rows(self):
        self.assertEqual(sided((), ()), ())

    def test_one_to_six_rows(self):
        for many in range(1, 7):
            rows = tuple([(k, -k) for k in range(many)])
            told = sided(rows, tuple(range(many)))
            self.assertEqual(told, tuple([(k, -k, -k) for k in range(many)]))
            self.assertTrue(all(type(number) is int for row in told for number in row))


class Beyond(unittest.TestCase):
    def refused(self, rows, sides, width, most):
        with self.assertRaises(TooMany) as caught:
            beyond(rows, sides, width, most)
        self.assertIsInstance(caught.exception, LayError)

    def test_by_going_through_a_box(self):
        for rows, sides, tops in SIDED:
            told, base, paper = beyond(rows, sides, len(tops), 2000)
            self.assertEqual(told, least_among(to_sides(rows, sides, tops)), (rows, sides))
            self.assertEqual(base, long_least(rows, tops), (rows, sides))

    def test_by_what_least_tells_of_the_sided_rows(self):
        for rows, sides, tops in SIDED:
            case = sided_case(rows, sides, len(tops))
            both, walk = least(case[0], case[1], 2000)
            told, base, paper = beyond(rows, sides, len(tops), 2000)
            self.assertEqual(paper, walk)
            self.assertEqual(sorted([one + (1,) for one in told] + [one + (0,) for one in base]), list(both))
            self.assertTrue(all(is_vector(one, len(tops)) for one in told + base))
            self.assertTrue(all(is_vector(one, len(tops) + 1) and one[-1] < 2 for one in paper))

    def test_by_hand(self):
        self.assertEqual(beyond(((1, 1),), (2,), 2, 100)[:2], (((0, 2), (1, 1), (2, 0)), ()))
        self.assertEqual(beyond(((2, -3),), (1,), 2, 100)[:2], (((2, 1),), ((3, 2),)))
        self.assertEqual(beyond(((2, -3),), (-1,), 2, 100)[:2], (((1, 1),), ((3, 2),)))

    def test_all_sides_nought(self):
        for rows, tops in BOXES:
            if len(tops) < 8:
                told, base, paper = beyond(rows, (0,) * len(rows), len(tops), 2000)
                self.assertEqual((told, base), (((0,) * len(tops),), long_least(rows, tops)))

    def test_sides_that_no_vector_comes_to(self):
        for rows, sides, base in (
            (((2, -4),), (1,), ((2, 1),)), (((0, 0),), (5,), ((0, 1), (1, 0))), (((1, 1),), (-1,), ()),
            (((1, -1), (1, -1)), (1, 2), ((1, 1),)), (((MANY, -MANY),), (1,), ((1, 1),)),
        ):
            self.assertEqual(beyond(rows, sides, 2, 2000)[:2], ((), base))

    def test_no_rows_of_each_width(self):
        for width in range(1, 8):
            base = tuple(sorted(units(width)))
            paper = tuple(sorted(units(width + 1)))
            self.assertEqual(beyond((), (), width, width + 1), (((0,) * width,), base, paper))
            self.refused((), (), width, width)

    def test_just_so_many_as_the_walk_has_and_one_fewer(self):
        for rows, sides, tops in SIDED:
            case = sided_case(rows, sides, len(tops))
            many = sum([len(level) for level in long_levels(case[0], case[1], 10 ** 6)])
            self.assertEqual(len(beyond(rows, sides, len(tops), many)[2]), many)
            self.refused(rows, sides, len(tops), many - 1)
            self.refused(rows, sides, len(tops), 0)

    def test_great_sides_are_refused_and_end(self):
        self.refused(((1, -1),), (MANY,), 2, 2000)
        self.refused(((1, 1),), (-MANY,), 2, 2)
        self.refused(((MANY, -1),), (MANY,), 2, 2000)

    def test_every_answer_to_the_sides_is_one_beyond_and_a_sum_of_the_base(self):
        for rows, sides, tops in SIDED:
            told, base, paper = beyond(rows, sides, len(tops), 2000)
            for one in capped_box(tops):
                if long_sums(rows, one) == list(sides):
                    k, counts = laid_beyond(told, base, one)
                    rest = tuple([a - b for a, b in zip(one, told[k])])
                    self.assertIs(is_lay(base, rest, counts), True)
                else:
                    with self.assertRaises(NoLay):
                        laid_beyond(told, base, one)


class ShowsBeyond(unittest.TestCase):
    ROWS = ((1, 1, -2),)
    SIDES = (1,)
    TOLD, BASE, PAPER = beyond(((1, 1, -2),), (1,), 3, 2000)

    def taken(self, told, base, paper):
        return shows_beyond(self.ROWS, self.SIDES, 3, told, base, paper)

    def test_what_beyond_tells(self):
        for rows, sides, tops in SIDED:
            told, base, paper = beyond(rows, sides, len(tops), 2000)
            self.assertIs(shows_beyond(rows, sides, len(tops), told, base, paper), True)
            self.assertIs(shows_beyond(rows, sides, len(tops), told, base, paper[::-1]), True)
            self.assertIs(shows_beyond(rows, sides, len(tops), told, base, paper + paper), True)

    def test_no_rows_and_sides_of_nought(self):
        for width in range(1, 8):
            self.assertIs(shows_beyond((), (), width, *beyond((), (), width, 8)), True)
            self.assertIs(shows_beyond((), (), width, (), *beyond((), (), width, 8)[1:]), False)

    def test_one_left_out(self):
        for rows, sides, tops in SIDED:
            told, base, paper = beyond(rows, sides, len(tops), 2000)
            for k in range(len(told)):
                fewer = told[:k] + told[k + 1:]
                self.assertIs(shows_beyond(rows, sides, len(tops), fewer, base, paper), False)
            for k in range(len(base)):
                fewer = base[:k] + base[k + 1:]
                self.assertIs(shows_beyond(rows, sides, len(tops), told, fewer, paper), False)
            for k, one in enumerate(paper):
                if one[:-1] not in told + base:
                    fewer = paper[:k] + paper[k + 1:]
                    self.assertIs(shows_beyond(rows, sides, len(tops), told, base, fewer), False)

    def test_one_twice_and_two_exchanged(self):
        for rows, sides, tops in SIDED:
            told, base, paper = beyond(rows, sides, len(tops), 2000)
            for some in (told, base):
                for k in range(len(some)):
                    self.check_list(rows, sides, told, base, paper, some, some[:k + 1] + some[k:])
                for k in range(len(some) - 1):
                    other = some[:k] + (some[k + 1], some[k]) + some[k + 2:]
                    self.check_list(rows, sides, told, base, paper, some, other)

    def check_list(self, rows, sides, told, base, paper, some, other):
        """Not taken with the other in the place of some, which is told or base."""
        pair = (other, base) if some is told else (told, other)
        self.assertIs(shows_beyond(rows, sides, len(paper[0]) - 1, *pair, paper), False)

    def test_told_and_base_exchanged(self):
        self.assertIs(self.taken(self.TOLD, self.BASE, self.PAPER), True)
        self.assertIs(self.taken(self.BASE, self.TOLD, self.PAPER), False)
        self.assertIs(self.taken(self.BASE, self.BASE, self.PAPER), False)
        self.assertIs(self.taken(self.TOLD, self.TOLD, self.PAPER), False)

    def test_one_more(self):
        for one in capped_box((3, 3, 2)):
            if one not in self.TOLD:
                self.assertIs(self.taken(tuple(sorted(self.TOLD + (one,))), self.BASE, self.PAPER), False)
            if one not in self.BASE:
                self.assertIs(self.taken(self.TOLD, tuple(sorted(self.BASE + (one,))), self.PAPER), False)

    def test_nought_in_the_base(self):
        self.assertIs(self.taken(self.TOLD, ((0, 0, 0),) + self.BASE, self.PAPER), False)
        self.assertIs(shows_beyond((), (), 1, ((0,),), ((0,), (1,)), ((0, 1), (1, 0))), False)
        self.assertIs(shows_beyond((), (), 1, ((0,),), ((1,),), ((0, 1), (1, 0))), True)

    def test_a_last_number_of_two_on_the_paper(self):
        for one in ((0, 0, 0, 2), (2, 2, 2, 2), (2, 0, 1, 2)):
            self.assertIs(self.taken(self.TOLD, self.BASE, self.PAPER + (one,)), False)
            self.assertIs(self.taken(self.TOLD, self.BASE, (one,) + self.PAPER), False)

    def test_of_anything_whole(self):
        ring = []
        ring.append(ring)
        for thing in (
            None, True, False, 0, 1, -1, 0.5, "", "abc", b"", [], {}, {(1, 0, 0): 1}, set(), range(2), object(), ring,
            list(self.TOLD), list(self.BASE), list(self.PAPER), 10 ** 5000, iter(()), len,
        ):
            self.assertIs(self.taken(thing, self.BASE, self.PAPER), False)
            self.assertIs(self.taken(self.TOLD, thing, self.PAPER), False)
            self.assertIs(self.taken(self.TOLD, self.BASE, thing), False)
            self.assertIs(self.taken(thing, thing, thing), False)

    def test_of_anything_within(self):
        for thing in (
            None, True, 0, 1, "", "abc", [], [1, 0, 0], {}, (), (1,), (1, 0), (1, 0, 0, 0, 0), (True, 0, 0),
            (1, False, 0), ("1", 0, 0), (1, 0, "0"), (1, 0, None), (1, 0, -1), (-1, 2, 0), (1.0, 0, 0), ((1,), 0, 0),
            (1, 0, []), (1, 0, 0, True), (True, True, True, 1), object(), (float("nan"), 0, 0), b"abc",
        ):
            for k in range(len(self.TOLD) + 1):
                self.assertIs(self.taken(self.TOLD[:k] + (thing,) + self.TOLD[k:], self.BASE, self.PAPER), False)
            for k in range(len(self.BASE) + 1):
                self.assertIs(self.taken(self.TOLD, self.BASE[:k] + (thing,) + self.BASE[k:], self.PAPER), False)
            for k in range(len(self.PAPER) + 1):
                self.assertIs(self.taken(self.TOLD, self.BASE, self.PAPER[:k] + (thing,) + self.PAPER[k:]), False)
            self.assertIs(self.taken((thing,), (thing,), (thing,)), False)

    def test_truths_in_the_place_of_numbers(self):
        for k, some in enumerate((self.TOLD, self.BASE, self.PAPER)):
            for at, one in enumerate(some):
                for j, number in enumerate(one):
                    if number < 2:
                        other = some[:at] + (one[:j] + (bool(number),) + one[j + 1:],) + some[at + 1:]
                        handed = [self.TOLD, self.BASE, self.PAPER]
                        handed[k] = other
                        self.assertIs(self.taken(*handed), False)

    def test_vectors_that_have_the_last_number_already(self):
        told = tuple([one + (1,) for one in self.TOLD])
        base = tuple([one + (0,) for one in self.BASE])
        self.assertIs(self.taken(told, base, self.PAPER), False)

    def test_nothing_is_changed(self):
        handed = ([[1, 0, 0]], {"base": [1]}, (([1],),))
        kept = copy.deepcopy(handed)
        self.taken(*handed)
        self.taken(self.TOLD, self.BASE, handed)
        self.assertEqual(handed, kept)

    def test_whoever_made_it(self):
        # All choices of told and base out of a small box, with the paper as it was told: one is taken.
        rows, sides = ((1, -1),), (1,)
        told, base, paper = beyond(rows, sides, 2, 100)
        whole = capped_box((1, 1))
        chosen = [some for many in range(5) for some in itertools.combinations(whole, many)]
        taken = [pair for pair in itertools.product(chosen, repeat=2) if shows_beyond(rows, sides, 2, *pair, paper)]
        self.assertEqual(taken, [(told, base)])


class LaidBeyond(unittest.TestCase):
    def refused(self, told, base, one):
        with self.assertRaises(NoLay) as caught:
            laid_beyond(told, base, one)
        self.assertIsInstance(caught.exception, LayError)

    def test_the_first_that_is_below(self):
        self.assertEqual(laid_beyond(((5, 5), (1, 0), (0, 1)), ((1, 1),), (3, 2)), (1, (2,)))
        self.assertEqual(laid_beyond(((1, 0), (2, 1)), ((1, 1),), (3, 2)), (0, (2,)))
        self.assertEqual(laid_beyond(((2, 1), (1, 0)), ((1, 1),), (3, 2)), (0, (1,)))

    def test_an_earlier_one_below_whose_rest_is_not_laid(self):
        self.assertEqual(laid_beyond(((0, 1), (1, 0)), ((1, 1),), (3, 2)), (1, (2,)))
        self.assertEqual(laid_beyond(((0,), (1,), (2,)), ((3,),), (5,)), (2, (1,)))
        # The rest 6 has a lay, 3 and 3, but not the one that laid tells.
        self.assertEqual(laid_beyond(((1,), (3,)), ((4,), (3,)), (7,)), (1, (1, 0)))
        self.refused(((1,),), ((4,), (3,)), (7,))

    def test_nought_and_like_vectors_among_told(self):
        self.assertEqual(laid_beyond(((0, 0),), ((1, 1),), (2, 2)), (0, (2,)))
        self.assertEqual(laid_beyond(((9, 9), (1, 1), (1, 1)), ((1, 1),), (2, 2)), (1, (1,)))
        self.assertEqual(laid_beyond(((0, 0), (0, 0)), (), (0, 0)), (0, ()))
        self.assertEqual(laid_beyond(((0, 0), (1, 1)), (), (1, 1)), (1, ()))

    def test_none(self):
        self.refused((), ((1, 1),), (2, 2))
        self.refused((), (), (0, 0))
        self.refused(((3, 0), (0, 3)), ((1, 1),), (2, 2))
        self.refused(((1, 0), (0, 1)), ((1, 1),), (2, 2))
        self.refused(((1, 0),), (), (2, 0))

    def test_great_numbers(self):
        self.assertEqual(laid_beyond(((MANY, 1),), ((2, 0), (0, 1)), (3 * MANY, MANY)), (0, (MANY, MANY - 1)))

    def test_kinds(self):
        told = laid_beyond(((1, 0),), ((1, 1), (2, 3)), (4, 3))
        self.assertEqual(told, (0, (3, 0)))
        self.assertIs(type(told), tuple)
        self.assertTrue(is_vector(told[1], 2))

    def test_one_that_is_told_itself(self):
        for rows, sides, tops in SIDED:
            told, base, paper = beyond(rows, sides, len(tops), 2000)
            for k, one in enumerate(told):
                self.assertEqual(laid_beyond(told, base, one), (k, (0,) * len(base)))

    def test_free_caps_and_answers_of_the_rows(self):
        for rows, tops in BOXES:
            width = len(tops)
            base = least(rows, free(width), 2000)[0]
            for one in capped_box(tops):
                if long_answer(rows, one):
                    self.assertEqual(laid_beyond(((0,) * width,), base, one)[0], 0)


if __name__ == "__main__":
    unittest.main()
