"""Points [10], [11], [12], and [3] (a), (b), (d)."""

import itertools
import unittest

from leastlays.caps import free
from leastlays.errors import LayError, TooMany
from leastlays.finding import Finder, least
from leastlays.lays import is_lay, laid
from tests.helper import (
    BOXES, MANY, SYSTEMS, capped_box, is_vector, long_answer, long_least, long_levels, together, units)


def cap_cases():
    """Rows with caps: free ones, small ones, of 0, and some of each."""
    told = []
    for rows, tops in BOXES:
        width = len(tops)
        told.append((rows, free(width)))
        told.append((rows, tops))
        for cap in (0, 1, 2):
            told.append((rows, (cap,) * width))
        told.append((rows, tuple([(None, 2, 0, 1)[j % 4] for j in range(width)])))
        told.append((rows, tuple([(1, None, 3)[j % 3] for j in range(width)])))
    return told


def walk_size(rows, caps):
    """How many vectors the walk has."""
    return sum([len(level) for level in long_levels(rows, caps, 10 ** 6)])


class Walk(unittest.TestCase):
    def test_ahead_of_the_first_step(self):
        for rows, caps in cap_cases():
            finder = Finder(rows, caps)
            self.assertEqual((finder.level(), finder.told(), finder.paper()), ((), (), ()))
            self.assertIs(finder.ended(), False)

    def test_step_by_step(self):
        for rows, caps in cap_cases():
            finder = Finder(rows, caps)
            paper = ()
            for number, level in enumerate(long_levels(rows, caps, 10 ** 6), start=1):
                many = finder.step()
                self.assertIs(type(many), int)
                self.assertEqual(many, len(level))
                self.assertEqual(finder.level(), level)
                self.assertTrue(all(sum(one) == number for one in level))
                paper += level
                self.assertEqual(finder.paper(), paper)
                self.assertEqual(finder.told(), tuple(sorted([one for one in paper if long_answer(rows, one)])))
                self.assertIs(finder.ended(), False)
            self.check_ended(finder, rows, paper)

    def check_ended(self, finder, rows, paper):
        """A walk behind its last level: asked again and again."""
        told = finder.told()
        for again in range(3):
            many = finder.step()
            self.assertEqual(many, 0)
            self.assertIs(type(many), int)
            self.assertIs(finder.ended(), True)
            self.assertEqual((finder.level(), finder.told(), finder.paper()), ((), told, paper))

    def test_kinds(self):
        for rows, caps in cap_cases()[:40]:
            finder = Finder(rows, caps)
            while finder.step() > 0:
                for some in (finder.level(), finder.told(), finder.paper()):
                    self.assertIs(type(some), tuple)
                    self.assertTrue(all(is_vector(one, len(caps)) for one in some))

    def test_by_hand(self):
        # (0, 1) has the sum -3, so it falls at place 0 alone; (1, 0) has 2 and falls at place 1.
        finder = Finder(((2, -3),), (None, None))
        levels = []
        while finder.step() > 0:
            levels.append(finder.level())
        self.assertEqual(levels, [((0, 1), (1, 0)), ((1, 1),), ((2, 1),), ((2, 2),), ((3, 2),)])
        self.assertEqual(finder.told(), ((3, 2),))

    def test_one_that_comes_of_two_stands_once(self):
        finder = Finder(((1, 1, -2),), (None, None, None))
        self.assertEqual(finder.step(), 3)
        # (1, 0, 1) comes of (1, 0, 0) and of (0, 0, 1).
        self.assertEqual(finder.step(), 2)
        self.assertEqual(finder.level(), ((0, 1, 1), (1, 0, 1)))

    def test_above_an_answer_ahead_it_does_not_stand(self):
        finder = Finder(((1, 2, -3),), (None, None, None))
        for again in range(3):
            finder.step()
        self.assertEqual(finder.level(), ((0, 2, 1), (1, 1, 1), (2, 0, 1)))
        self.assertEqual(finder.told(), ((1, 1, 1),))
        # (2, 1, 1) comes of (2, 0, 1) too, but (1, 1, 1) is an answer of a level ahead.
        self.assertEqual(finder.step(), 2)
        self.assertEqual(finder.level(), ((0, 2, 2), (3, 0, 1)))

    def test_nothing_comes_of_an_answer(self):
        finder = Finder(((0, 0),), (None, None))
        self.assertEqual(finder.step(), 2)
        self.assertEqual(finder.step(), 0)
        self.assertEqual(finder.told(), ((0, 1), (1, 0)))

    def test_caps_cut_the_first_level_and_the_others(self):
        finder = Finder(((2, -3),), (None, 0))
        self.assertEqual((finder.step(), finder.level()), (1, ((1, 0),)))
        self.assertEqual((finder.step(), finder.ended()), (0, True))
        finder = Finder(((2, -3),), (2, None))
        self.assertEqual([finder.step() for k in range(6)], [2, 1, 1, 1, 0, 0])
        self.assertEqual((finder.told(), finder.paper()), ((), ((0, 1), (1, 0), (1, 1), (2, 1), (2, 2))))

    def test_caps_of_nought(self):
        for width in range(1, 9):
            for rows in ((), ((0,) * width,), ((1,) * width,)):
                finder = Finder(rows, (0,) * width)
                self.assertIs(finder.ended(), False)
                self.assertEqual([finder.step(), finder.step()], [0, 0])
                self.assertIs(finder.ended(), True)
                self.assertEqual((finder.level(), finder.told(), finder.paper()), ((), (), ()))

    def test_two_by_turns(self):
        cases = ((((3, 5, -7),), (None,) * 3), (((2, -3),), (None, None)), (((3, 5, -7),), (3, 3, 3)), ((), (None,)))
        for first, second in itertools.product(cases, repeat=2):
            pair = (Finder(*first), Finder(*second))
            met = ([], [])
            while not (pair[0].ended() and pair[1].ended()):
                for k in (0, 1):
                    if pair[k].step() > 0:
                        met[k].append(pair[k].level())
            for k, case in enumerate((first, second)):
                self.assertEqual(met[k], long_levels(case[0], case[1], 10 ** 6))

    def test_what_was_told_stays_as_it_was(self):
        finder = Finder(((1, 1, -2),), (None, None, None))
        finder.step()
        kept = (finder.level(), finder.told(), finder.paper())
        shown = repr(kept)
        finder.step()
        finder.step()
        self.assertEqual(repr(kept), shown)

    def test_great_numbers_step_on(self):
        finder = Finder(((MANY, 1 - MANY),), (None, None))
        levels = long_levels(((MANY, 1 - MANY),), (None, None), 300)
        for level in levels:
            finder.step()
            self.assertEqual(finder.level(), level)
        self.assertEqual((finder.told(), finder.ended()), ((), False))


class Least(unittest.TestCase):
    def refused(self, rows, caps, most):
        with self.assertRaises(TooMany) as caught:
            least(rows, caps, most)
        self.assertIsInstance(caught.exception, LayError)

    def test_most_just_the_number_of_vectors_and_one_fewer(self):
        for rows, caps in cap_cases():
            levels = long_levels(rows, caps, 10 ** 6)
            paper = tuple([one for level in levels for one in level])
            met = tuple(sorted([one for one in paper if long_answer(rows, one)]))
            self.assertEqual(least(rows, caps, len(paper)), (met, paper))
            self.assertEqual(least(rows, caps, len(paper) + 1), (met, paper))
            if len(paper) > 0:
                self.refused(rows, caps, len(paper) - 1)
                self.refused(rows, caps, 0)

    def test_most_of_nought_where_the_walk_has_no_vector(self):
        for width in range(1, 9):
            self.assertEqual(least(((1,) * width,), (0,) * width, 0), ((), ()))

    def test_each_most_below_the_number_is_refused(self):
        for rows, caps in ((((3, 5, -7),), (None,) * 3), (((2, -3),), (None, None)), ((), (None,) * 4)):
            for most in range(walk_size(rows, caps)):
                self.refused(rows, caps, most)

    def test_just_the_least_answers_of_a_box(self):
        for rows, tops in BOXES:
            width = len(tops)
            for caps in (tops, (0,) * width, (1,) * width, (2,) * width, (1, 2, 0, 3, 1, 1, 1, 1)[:width]):
                self.assertEqual(least(rows, caps, 2000)[0], long_least(rows, caps), (rows, caps))
            # All free ones lie in the box, so they are just those of the box.
            self.assertEqual(least(rows, free(len(tops)), 2000)[0], long_least(rows, tops), rows)

    def test_no_rows(self):
        for width in range(1, 9):
            told = tuple(sorted(units(width)))
            self.assertEqual(least((), free(width), width), (told, told))
            self.refused((), free(width), width - 1)
            caps = tuple([j % 2 for j in range(width)])
            told = tuple(sorted([one for j, one in enumerate(units(width)) if caps[j]]))
            self.assertEqual(least((), caps, 8), (told, told))

    def test_rows_of_noughts(self):
        for width in range(1, 9):
            for many in range(1, 7):
                told = tuple(sorted(units(width)))
                self.assertEqual(least(((0,) * width,) * many, free(width), width), (told, told))

    def test_great_numbers(self):
        self.assertEqual(least(((MANY, -MANY),), free(2), 3)[0], ((1, 1),))
        self.assertEqual(least(((MANY, -MANY, 1 - MANY), (-MANY, MANY, MANY - 1)), (None, 3, 3), 2000)[0], ((1, 1, 0),))
        row = (MANY, 1 - MANY, -1)
        self.assertEqual(least((row,), (5, 5, 5), 2000)[0], ((1, 1, 1),))
        self.assertEqual(least((row,), (5, 5, 5), 2000)[0], long_least((row,), (5, 5, 5)))
        self.refused((row,), free(3), 2000)

    def test_a_walk_of_great_length_is_refused_and_ends(self):
        for rows in (((MANY, 1 - MANY),), ((1, -MANY),), ((MANY, -1),), ((MANY - 1, -MANY), (1 - MANY, MANY))):
            for most in (0, 1, 2, 100, 2000):
                self.refused(rows, (None, None), most)

    def test_the_row_whose_walk_has_two_more_than_its_number(self):
        for n in (1, 2, 3, 10, 255, 1998):
            told, paper = least(((1, -n),), free(2), n + 2)
            self.assertEqual((told, len(paper)), (((n, 1),), n + 2))
            self.assertEqual(paper[:3], ((0, 1), (1, 0), (1, 1)))
            self.refused(((1, -n),), free(2), n + 1)
            told, paper = least(((-n, 1),), free(2), n + 2)
            self.assertEqual((told, len(paper)), (((1, n),), n + 2))

    def test_somewhat_more_than_two_thousand_is_not_refused(self):
        told, paper = least(((1, -2500),), free(2), 2502)
        self.assertEqual((told, len(paper)), (((2500, 1),), 2502))

    def test_more_than_eight_unknowns(self):
        row = (1,) * 6 + (-1,) * 6
        told, paper = least((row,), free(12), 48)
        self.assertEqual((len(told), len(paper)), (36, 48))
        self.refused((row,), free(12), 47)

    def test_a_level_far_above_most_is_refused(self):
        row = (1, -1) * 600
        self.refused((row,), free(1200), 1199)
        self.refused((row,), free(1200), 2000)

    def test_no_answer_but_nought(self):
        for rows, width in ((((1,),), 1), (((1, 2, 3),), 3), (((-1, -1),), 2), (((1, -1), (1, 1)), 2)):
            self.assertEqual(least(rows, free(width), 2000)[0], ())


class Promise(unittest.TestCase):
    def test_each_told_is_an_answer_and_no_sum_of_two_others(self):
        for rows, caps in cap_cases():
            told = least(rows, caps, 2000)[0]
            for one in told:
                self.assertTrue(any(one))
                self.assertTrue(long_answer(rows, one))
            for first, second in itertools.combinations_with_replacement(told, 2):
                self.assertNotIn(together(len(caps), (first, second)), told)

    def test_every_answer_of_a_box_is_laid_in_them(self):
        for rows, tops in BOXES:
            for caps in (tops, free(len(tops))):
                told = least(rows, caps, 2000)[0]
                for one in capped_box(tops):
                    if long_answer(rows, one):
                        self.assertIs(is_lay(told, one, laid(told, one)), True)

    def test_the_finding_ends_or_is_refused(self):
        for rows, width in SYSTEMS:
            for most in (0, 10, 500):
                try:
                    told, paper = least(rows, free(width), most)
                    self.assertLessEqual(len(paper), most)
                except TooMany:
                    self.assertGreater(sum([len(level) for level in long_levels(rows, free(width), most + 1)]), most)


if __name__ == "__main__":
    unittest.main()
