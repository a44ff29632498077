"""Point [16], and [3] (b)."""

import unittest

from leastlays.answering import answers
from leastlays.errors import LayError, TooMany
from leastlays.finding import least
from tests.helper import BOXES, MANY, PARTS, capped_box, is_vector, long_answer, long_lays, units


def cap_cases():
    """Told ones with caps of their width."""
    told = []
    for parts in PARTS:
        width = len(parts[0]) if parts else 2
        tops = {1: 17, 2: 5, 3: 3, 4: 2}
        for cap in (0, 1, 2, tops[width]):
            told.append((parts, (cap,) * width))
        told.append((parts, tuple([(2, 0, 3, 1)[j] for j in range(width)])))
    return told


class Answers(unittest.TestCase):
    def refused(self, told, caps, most):
        with self.assertRaises(TooMany) as caught:
            answers(told, caps, most)
        self.assertIsInstance(caught.exception, LayError)

    def test_nought_alone_where_none_is_told(self):
        for width in range(1, 9):
            for cap in (0, 1, MANY):
                self.assertEqual(answers((), (cap,) * width, 1), ((0,) * width,))
                self.refused((), (cap,) * width, 0)

    def test_caps_of_nought(self):
        for width in range(1, 9):
            self.assertEqual(answers(tuple(units(width)), (0,) * width, 1), ((0,) * width,))
            self.refused(tuple(units(width)), (0,) * width, 0)

    def test_as_often_as_it_stays_within_the_caps(self):
        self.assertEqual(answers(((2, 3),), (7, 9), 2000), ((0, 0), (2, 3), (4, 6), (6, 9)))
        self.assertEqual(answers(((2, 3),), (5, MANY), 2000), ((0, 0), (2, 3), (4, 6)))
        self.assertEqual(answers(((2, 3),), (7, 8), 2000), ((0, 0), (2, 3), (4, 6)))
        self.assertEqual(answers(((2, 3),), (1, 9), 2000), ((0, 0),))
        self.assertEqual(answers(((1,),), (1999,), 2000), tuple([(k,) for k in range(2000)]))

    def test_sums_of_several(self):
        self.assertEqual(answers(((5,), (3,)), (11,), 2000), ((0,), (3,), (5,), (6,), (8,), (9,), (10,), (11,)))
        # What comes in two ways stands once.
        self.assertEqual(answers(((1, 0), (0, 1), (1, 1)), (1, 1), 4), ((0, 0), (0, 1), (1, 0), (1, 1)))

    def test_all_sums_by_going_through_a_box(self):
        for told, caps in cap_cases():
            found = tuple([one for one in capped_box(caps) if long_lays(told, one)])
            self.assertEqual(answers(told, caps, 2000), found)
            self.assertEqual(answers(told[::-1], caps, 2000), found)

    def test_most_just_their_number_and_one_fewer(self):
        for told, caps in cap_cases():
            found = answers(told, caps, 2000)
            self.assertEqual(answers(told, caps, len(found)), found)
            self.refused(told, caps, len(found) - 1)
            self.refused(told, caps, 0)

    def test_great_caps_are_refused_and_end(self):
        for width in range(1, 9):
            self.refused(tuple(units(width)), (MANY,) * width, 2000)
        self.refused(((1, 0), (0, MANY)), (MANY, MANY), 2000)

    def test_great_numbers(self):
        told = ((MANY, 0), (0, MANY), (1, MANY))
        found = ((0, 0), (0, MANY), (1, MANY), (MANY, 0), (MANY, MANY))
        self.assertEqual(answers(told, (MANY, MANY), 5), found)
        self.refused(told, (MANY, MANY), 4)
        self.assertEqual(answers(told, (MANY, MANY - 1), 5), ((0, 0), (MANY, 0)))

    def test_somewhat_more_than_two_thousand_is_not_refused(self):
        self.assertEqual(len(answers(((1,),), (2499,), 2500)), 2500)

    def test_of_the_least_answers_just_all_answers(self):
        for rows, tops in BOXES:
            for caps in (tops, (1,) * len(tops), (2,) * len(tops), (0,) * len(tops)):
                found = tuple([one for one in capped_box(caps) if long_answer(rows, one)])
                self.assertEqual(answers(least(rows, caps, 2000)[0], caps, 2000), found)

    def test_told_ones_beyond_the_caps_do_not_count(self):
        for rows, tops in BOXES:
            told = least(rows, (None,) * len(tops), 2000)[0]
            found = tuple([one for one in capped_box(tops) if long_answer(rows, one)])
            self.assertEqual(answers(told, tops, 2000), found)

    def test_kinds(self):
        for told, caps in cap_cases():
            found = answers(told, caps, 2000)
            self.assertIs(type(found), tuple)
            self.assertTrue(all(is_vector(one, len(caps)) for one in found))


if __name__ == "__main__":
    unittest.main()
