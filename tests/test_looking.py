"""Point [13], and [3] (c)."""

import copy
import itertools
import unittest

from leastlays.caps import free
from leastlays.finding import least
from leastlays.looking import shows
from tests.helper import (
    BOXES, MANY, capped_box, is_vector, long_answer, long_below, long_least, long_steps, long_within, together, units)

ROWS = ((1, 1, -2),)
CAPS = (None, None, 5)
TOLD, PAPER = least(ROWS, CAPS, 2000)

# Nothing of this is a tuple of vectors of width 3.
NO_TUPLES = (
    None, True, False, 0, 1, -1, 7, MANY, 10 ** 5000, 0.5, float("nan"), 1j, "", "a", "(1, 1, 1)", b"", b"abc", [],
    [(1, 1, 1)], {}, {(1, 1, 1): True}, set(), {(1, 1, 1)}, frozenset(), range(3), iter(()), object(), object, len,
    lambda: (), ..., NotImplemented, ValueError("x"), bytearray(b"abc"), ((i, i, i) for i in range(1, 2)),
)

# Nothing of this is a vector of width 3, not nought, within CAPS.
NO_VECTORS = NO_TUPLES + (
    (), (1,), (1, 1), (1, 1, 1, 1), (1, 1, 1, 0), [1, 1, 1], (0, 0, 0), (0, 0, 6), (MANY, MANY, 6), (1, 1, -1),
    (-1, 1, 1), (-2, 0, -1), (1, 1, True), (True, True, True), (False, 1, 1), (2, False, 1), ("1", 1, 1), (1, 1, "1"),
    (1, 1, None), (None, None, None), (1, 1, 1.0), (1.0, 1, 1), (1, 1, (1,)), ((1, 1, 1),), ((1,), (1,), (1,)),
    (1, 1, [1]), (1, {}, 1), "111", b"\x01\x01\x01", {0: 1, 1: 1, 2: 1}, (1, 1, 1j), (float("nan"), 1, 1),
    (1, 1, object()),
)


def long_shows(rows, caps, told, paper):
    """Point [13] word by word, of a tuple of tuples of numbers from 0."""
    if any(not any(one) or not long_within(caps, one) for one in told + paper):
        return False
    if list(told) != sorted(set(told)) or not all(long_answer(rows, one) for one in told):
        return False
    if any(long_below(one, other) for one, other in itertools.permutations(told, 2)):
        return False
    over = {one for one in capped_box(caps) if any(long_below(other, one) for other in told)}
    met = over | set(paper)
    if any(long_answer(rows, one) and one not in over for one in paper):
        return False
    needed = [one for one in units(len(caps)) if long_within(caps, one)]
    for one in paper:
        if one not in over:
            needed.extend(long_steps(rows, caps, one))
    return all(one in met for one in needed)


def some_of(things):
    """All choices, in order, out of the things."""
    told = [()]
    for thing in things:
        told += [chosen + (thing,) for chosen in told]
    return told


def walks():
    """Rows, caps, what least tells of them."""
    told = []
    for rows, tops in BOXES:
        for caps in (free(len(tops)), tops, (2,) * len(tops), (0,) * len(tops)):
            told.append((rows, caps) + least(rows, caps, 2000))
    return told


class Taken(unittest.TestCase):
    def test_what_least_tells(self):
        for rows, caps, told, paper in walks():
            self.assertIs(shows(rows, caps, told, paper), True)

    def test_a_great_paper(self):
        for n in (255, 1998):
            self.assertIs(shows(((1, -n),), free(2), *least(((1, -n),), free(2), 2000)), True)

    def test_the_other_way_about_and_twice(self):
        for rows, caps, told, paper in walks():
            self.assertIs(shows(rows, caps, told, paper[::-1]), True)
            self.assertIs(shows(rows, caps, told, paper + paper), True)
            self.assertIs(shows(rows, caps, told, paper[1:] + paper[:1]), True)

    def test_with_vectors_above_told_ones_more(self):
        for rows, caps, told, paper in walks():
            more = [together(len(caps), (one, unit)) for one in told for unit in units(len(caps))]
            more += [together(len(caps), (one, one)) for one in told]
            more = tuple([one for one in more if long_within(caps, one)])
            self.assertIs(shows(rows, caps, told, paper + more), True)
            self.assertIs(shows(rows, caps, told, more + paper), True)

    def test_without_the_told_ones(self):
        for rows, caps, told, paper in walks():
            self.assertIs(shows(rows, caps, told, tuple([one for one in paper if one not in told])), True)

    def test_no_paper_where_each_unit_is_told_or_beyond_its_cap(self):
        for width in range(1, 9):
            self.assertIs(shows((), free(width), tuple(sorted(units(width))), ()), True)
            self.assertIs(shows(((1,) * width,), (0,) * width, (), ()), True)

    def test_the_whole_box_is_a_paper_too(self):
        for rows, tops in BOXES:
            told = long_least(rows, tops)
            paper = tuple([one for one in capped_box(tops) if any(one)])
            self.assertIs(shows(rows, tops, told, paper), True)

    def test_great_numbers_on_the_paper(self):
        self.assertIs(shows(((1, -1),), free(2), ((1, 1),), ((1, 0), (0, 1), (MANY ** 9, 1))), True)


class NotTaken(unittest.TestCase):
    def all_not_taken(self, cases):
        for rows, caps, told, paper in cases:
            self.assertIs(shows(rows, caps, told, paper), False, (rows, caps, told, paper))

    def test_a_told_one_left_out(self):
        for rows, caps, told, paper in walks():
            for k in range(len(told)):
                fewer = told[:k] + told[k + 1:]
                bare = tuple([one for one in paper if one not in told])
                self.all_not_taken([(rows, caps, fewer, some) for some in (paper, paper + paper, bare, ())])

    def test_one_twice(self):
        for rows, caps, told, paper in walks():
            for k in range(len(told)):
                self.all_not_taken([(rows, caps, told[:k + 1] + told[k:], paper), (rows, caps, told + told, paper)])

    def test_two_together_as_one_more(self):
        for rows, caps, told, paper in walks():
            for first, second in itertools.combinations_with_replacement(told, 2):
                more = tuple(sorted(told + (together(len(caps), (first, second)),)))
                self.all_not_taken([(rows, caps, more, paper)])

    def test_one_doubled(self):
        for rows, caps, told, paper in walks():
            for k, one in enumerate(told):
                other = tuple(sorted(told[:k] + (together(len(caps), (one, one)),) + told[k + 1:]))
                self.all_not_taken([(rows, caps, other, paper)])

    def test_nought_more(self):
        for rows, caps, told, paper in walks():
            nought = (0,) * len(caps)
            self.all_not_taken([
                (rows, caps, (nought,) + told, paper), (rows, caps, told, (nought,) + paper),
                (rows, caps, told, paper + (nought,)), (rows, caps, (nought,), paper), (rows, caps, (nought,), ())])

    def test_not_rising(self):
        for rows, caps, told, paper in walks():
            if len(told) > 1:
                self.all_not_taken([(rows, caps, told[::-1], paper), (rows, caps, told[1:] + told[:1], paper)])

    def test_a_vector_of_the_paper_left_out(self):
        for rows, caps, told, paper in walks():
            for k, one in enumerate(paper):
                if one not in told:
                    self.all_not_taken([(rows, caps, told, paper[:k] + paper[k + 1:])])

    def test_a_told_one_that_is_no_answer(self):
        for rows, caps, told, paper in walks():
            for one in paper:
                if not long_answer(rows, one):
                    self.all_not_taken([(rows, caps, tuple(sorted(told + (one,))), paper)])
        self.all_not_taken([(((1, -1),), (None, None), ((0, 1), (1, 0)), ()), (((1,),), (None,), ((1,),), ((1,),))])

    def test_an_answer_on_the_paper_with_none_told_below(self):
        self.all_not_taken([
            (((1, -1),), (None, None), (), ((0, 1), (1, 0), (1, 1))),
            (((0, 1),), (None, None), (), ((0, 1), (1, 0)))])

    def test_caps_of_others(self):
        told, paper = least(((2, -3),), free(2), 2000)
        self.all_not_taken([(((2, -3),), (2, 2), told, paper), (((2, -3),), (3, 1), told, paper)])
        short = least(((2, -3),), (2, 2), 2000)
        self.all_not_taken([(((2, -3),), free(2), short[0], short[1])])

    def test_empty_where_units_are_not_met(self):
        self.all_not_taken([((), (None,), (), ()), (((1,),), (1,), (), ()), (((1, -1),), (0, 1), (), ())])


class OfAnything(unittest.TestCase):
    def test_the_case_itself_is_taken(self):
        self.assertEqual(TOLD, ((0, 2, 1), (1, 1, 1), (2, 0, 1)))
        self.assertIs(shows(ROWS, CAPS, TOLD, PAPER), True)

    def test_as_told_and_as_paper(self):
        for thing in NO_TUPLES:
            self.assertIs(shows(ROWS, CAPS, thing, PAPER), False)
            self.assertIs(shows(ROWS, CAPS, TOLD, thing), False)
            self.assertIs(shows(ROWS, CAPS, thing, thing), False)

    def test_alone_and_among_the_told_ones(self):
        for thing in NO_VECTORS:
            for k in range(len(TOLD) + 1):
                self.assertIs(shows(ROWS, CAPS, TOLD[:k] + (thing,) + TOLD[k:], PAPER), False)
                self.assertIs(shows(ROWS, CAPS, TOLD[:k] + (thing,) + TOLD[k + 1:], PAPER), False)
            self.assertIs(shows(ROWS, CAPS, (thing,), PAPER), False)

    def test_alone_and_on_the_paper(self):
        for thing in NO_VECTORS:
            for k in range(len(PAPER) + 1):
                self.assertIs(shows(ROWS, CAPS, TOLD, PAPER[:k] + (thing,) + PAPER[k:]), False, thing)
            self.assertIs(shows(ROWS, CAPS, TOLD, (thing,)), False)

    def test_lists_of_the_right_things(self):
        self.assertIs(shows(ROWS, CAPS, list(TOLD), PAPER), False)
        self.assertIs(shows(ROWS, CAPS, TOLD, list(PAPER)), False)
        self.assertIs(shows(ROWS, CAPS, tuple([list(one) for one in TOLD]), PAPER), False)
        self.assertIs(shows(ROWS, CAPS, TOLD, tuple([list(one) for one in PAPER])), False)
        self.assertIs(shows(ROWS, CAPS, dict([(one, True) for one in TOLD]), PAPER), False)
        self.assertIs(shows(ROWS, CAPS, TOLD, set(PAPER)), False)

    def test_a_truth_in_the_place_of_each_number(self):
        for some in (TOLD, PAPER):
            for k, one in enumerate(some):
                for j in range(3):
                    if one[j] < 2:
                        other = some[:k] + (one[:j] + (bool(one[j]),) + one[j + 1:],) + some[k + 1:]
                        self.assertEqual(other, some)
                        pair = (other, PAPER) if some is TOLD else (TOLD, other)
                        self.assertIs(shows(ROWS, CAPS, *pair), False)

    def test_deep_and_round_ones(self):
        deep = ()
        for k in range(100000):
            deep = (deep,)
        ring = []
        ring.append(ring)
        for thing in (deep, ring, (ring,), ((ring,) * 3,)):
            self.assertIs(shows(ROWS, CAPS, thing, PAPER), False)
            self.assertIs(shows(ROWS, CAPS, TOLD, thing), False)

    def test_other_widths(self):
        for width in range(9):
            if width != 3:
                for one in ((1,) * width, (0,) * width):
                    self.assertIs(shows(ROWS, CAPS, (one,), PAPER), False)
                    self.assertIs(shows(ROWS, CAPS, TOLD, PAPER + (one,)), False)

    def test_nothing_handed_in_is_changed(self):
        told = [[1, 1, 1], [2, 0, 1]]
        paper = {(1, 1, 1): [True]}
        kept = copy.deepcopy((told, paper))
        for pair in ((told, paper), (TOLD, paper), (told, PAPER), (tuple(told), (paper,))):
            shows(ROWS, CAPS, *pair)
        self.assertEqual((told, paper), kept)
        shown = repr((ROWS, CAPS, TOLD, PAPER))
        shows(ROWS, CAPS, TOLD, PAPER)
        self.assertEqual(repr((ROWS, CAPS, TOLD, PAPER)), shown)

    def test_what_is_told_of_vectors_in_this_file(self):
        self.assertFalse([thing for thing in NO_VECTORS if is_vector(thing, 3) and any(thing) and thing[2] <= 5])


class WhoeverMadeIt(unittest.TestCase):
    def test_all_choices_in_small_boxes(self):
        taken = 0
        for rows, caps in (
            (((1, -1),), (1, 2)), (((1, -2),), (2, 1)), (((0, 1),), (2, 1)), (((1, 1),), (1, 2)), ((), (2, 1)),
            (((1, 1, -1),), (1, 1, 1)), (((1, 0, -1), (0, 1, -1)), (1, 1, 1)), (((2, -1),), (1, 2)),
            (((1, -1),), (2, 2)), (((2, -1),), (2, 2)),
        ):
            whole = capped_box(caps)
            found = long_least(rows, caps)
            answers = [one for one in whole if long_answer(rows, one)]
            for told in some_of(answers):
                for paper in some_of([one for one in whole if any(one)]):
                    answer = shows(rows, caps, told, paper)
                    self.assertIs(answer, long_shows(rows, caps, told, paper), (rows, caps, told, paper))
                    if answer:
                        taken += 1
                        self.assertEqual(told, found)
        self.assertGreater(taken, 100)

    def test_any_told_vectors(self):
        whole = capped_box((1, 2))
        for told in some_of(whole):
            for paper in some_of([one for one in whole if any(one)]):
                self.assertIs(shows(((1, -2),), (1, 2), told, paper), long_shows(((1, -2),), (1, 2), told, paper))


if __name__ == "__main__":
    unittest.main()
