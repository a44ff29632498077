"""Point [8]."""

import unittest

from leastlays.errors import LayError, NoAnswer, NoLay, NoLine, NoText, TooMany
from leastlays.ways import pieces, way
from tests.helper import (
    MANY, SYSTEMS, is_vector, long_answer, long_pull, small_answers, small_vectors, together)

# Answers of size 300, of one piece, of many, and of several rows.
GREAT = (
    (((1, -1),), (150, 150)),
    (((1, -299),), (299, 1)),
    (((-299, 1),), (1, 299)),
    (((2, -3),), (180, 120)),
    (((1, 1, -1, -1),), (75, 75, 100, 50)),
    (((1, -1, 0), (0, 1, -1)), (100, 100, 100)),
    (((MANY, -MANY, 0), (-MANY, 0, MANY)), (100, 100, 100)),
    ((), (100, 0, 200)),
    ((), (300,)),
)


def let_place(rows, at, one):
    """The least place that point [8] lets, word by word."""
    for j in range(len(one)):
        if at[j] < one[j] and (long_answer(rows, at) or long_pull(rows, at, j) < 0):
            return j
    return None


def stations(width, places):
    """The vectors on the way, nought first."""
    at = (0,) * width
    told = [at]
    for j in places:
        at = at[:j] + (at[j] + 1,) + at[j + 1:]
        told.append(at)
    return told


def answer_cases():
    """Rows and an answer, small and of size 300."""
    told = []
    for rows, width in SYSTEMS:
        told.extend([(rows, one) for one in small_answers(rows, width)])
    return told + list(GREAT)


class Way(unittest.TestCase):
    def test_of_nought(self):
        for rows, width in SYSTEMS:
            self.assertEqual(way(rows, (0,) * width), ())

    def test_of_one_piece(self):
        self.assertEqual(way(((1, -1),), (1, 1)), (0, 1))
        # From nought by 0; 2 falls at 1; -1 falls at 0; 1 falls at 1; -2 falls at 0.
        self.assertEqual(way(((2, -3),), (3, 2)), (0, 1, 0, 1, 0))

    def test_of_several_pieces(self):
        self.assertEqual(way(((1, -1),), (3, 3)), (0, 1, 0, 1, 0, 1))
        self.assertEqual(way(((1, 1, -1, -1),), (1, 1, 0, 2)), (0, 3, 1, 3))

    def test_a_fall_that_is_full_is_passed_over(self):
        # Of (1, 0, 0) the falls are 1 and 2, but the answer has 0 at place 1.
        self.assertEqual(way(((1, -1, -1),), (1, 0, 1)), (0, 2))

    def test_at_an_answer_any_place_that_is_less_will_do(self):
        # Place 0 has no row's number: all three are taken ahead of the others, each from an answer.
        self.assertEqual(way(((0, 1, -1),), (3, 1, 1)), (0, 0, 0, 1, 2))

    def test_at_no_answer_a_lesser_place_that_is_no_fall_is_passed_over(self):
        self.assertEqual(way(((0, 1, -1, 0),), (0, 1, 1, 1)), (1, 2, 3))
        self.assertEqual(way(((1, 0, -2),), (2, 3, 1)), (0, 2, 0, 1, 1, 1))

    def test_no_rows(self):
        self.assertEqual(way((), (2, 0, 3)), (0, 0, 2, 2, 2))

    def test_each_place_is_the_least_that_is_let(self):
        for rows, one in answer_cases():
            places = way(rows, one)
            on_the_way = stations(len(one), places)
            self.assertEqual(on_the_way[-1], one)
            for at, j in zip(on_the_way, places):
                self.assertEqual(j, let_place(rows, at, one), (rows, one, at))

    def test_size_of_three_hundred(self):
        for rows, one in GREAT:
            self.assertEqual(sum(one), 300)
            self.assertEqual(len(way(rows, one)), 300)

    def test_somewhat_beyond_three_hundred_is_not_refused(self):
        self.assertEqual(way(((1, -1),), (200, 200)), (0, 1) * 200)

    def test_kinds(self):
        for rows, one in answer_cases():
            told = way(rows, one)
            self.assertTrue(is_vector(told, sum(one)))


class Pieces(unittest.TestCase):
    def test_of_nought(self):
        for rows, width in SYSTEMS:
            self.assertEqual(pieces(rows, (0,) * width), ())

    def test_of_one_piece(self):
        self.assertEqual(pieces(((2, -3),), (3, 2)), ((3, 2),))
        self.assertEqual(pieces(((1, -299),), (299, 1)), ((299, 1),))

    def test_of_several_in_order(self):
        self.assertEqual(pieces(((1, -1),), (3, 3)), ((1, 1), (1, 1), (1, 1)))
        self.assertEqual(pieces(((1, 1, -1, -1),), (1, 1, 0, 2)), ((1, 0, 0, 1), (0, 1, 0, 1)))
        self.assertEqual(pieces(((1, 0, -2),), (2, 2, 1)), ((2, 0, 1), (0, 1, 0), (0, 1, 0)))

    def test_each_is_an_answer_met_less_the_one_ahead(self):
        for rows, one in answer_cases():
            on_the_way = stations(len(one), way(rows, one))
            met = [at for at in on_the_way if long_answer(rows, at)]
            told = tuple([tuple([b - a for a, b in zip(first, second)]) for first, second in zip(met, met[1:])])
            self.assertEqual(pieces(rows, one), told)

    def test_no_rows(self):
        self.assertEqual(pieces((), (2, 0, 1)), ((1, 0, 0), (1, 0, 0), (0, 0, 1)))

    def test_answers_not_nought_that_together_are_one(self):
        for rows, one in answer_cases():
            told = pieces(rows, one)
            self.assertIs(type(told), tuple)
            self.assertEqual(together(len(one), told), one)
            for piece in told:
                self.assertTrue(is_vector(piece, len(one)))
                self.assertTrue(long_answer(rows, piece))
                self.assertTrue(any(piece))

    def test_size_of_three_hundred(self):
        self.assertEqual(pieces(((1, -1),), (150, 150)), ((1, 1),) * 150)
        self.assertEqual(pieces(((2, -3),), (180, 120)), ((3, 2),) * 60)
        self.assertEqual(pieces((), (300,)), ((1,),) * 300)


class Refused(unittest.TestCase):
    def refused(self, rows, one):
        for asked in (way, pieces):
            with self.assertRaises(NoAnswer) as caught:
                asked(rows, one)
            self.assertIsInstance(caught.exception, LayError)
            self.assertNotIsInstance(caught.exception, (TooMany, NoLay, NoLine, NoText))

    def test_small(self):
        for rows, width in SYSTEMS:
            for one in small_vectors(width)[:200]:
                if not long_answer(rows, one):
                    self.refused(rows, one)

    def test_one_off_an_answer(self):
        self.refused(((2, -3),), (3, 3))
        self.refused(((2, -3),), (4, 2))
        self.refused(((1, -1, 0), (0, 1, -1)), (2, 2, 1))

    def test_far_above_three_hundred(self):
        self.refused(((1, -1),), (MANY, MANY - 1))
        self.refused(((1, -1),), (MANY, 0))
        self.refused(((MANY, -MANY), (0, 1)), (MANY, MANY))
        self.refused(((1, 1, 1, 1, 1, 1, 1, 1),), (MANY,) * 8)

    def test_no_way_up_and_not_nought(self):
        self.refused(((1, 2),), (1, 0))
        self.refused(((5,),), (1,))


if __name__ == "__main__":
    unittest.main()
