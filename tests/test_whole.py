"""Point [3], (a) to (h), over the whole program: from a text, by the functions, to the desk's answers."""

import itertools
import unittest

from leastlays.answering import answers
from leastlays.caps import free
from leastlays.desk import Desk
from leastlays.errors import TooMany
from leastlays.finding import Finder, least
from leastlays.joining import beside, dropped, turned
from leastlays.lays import fewest, is_lay, laid, lays
from leastlays.looking import shows
from leastlays.narrowing import by_rows, narrowed
from leastlays.prices import cheapest, cost
from leastlays.reading import read_paper, read_system
from leastlays.showing import show_paper, show_system
from leastlays.sides import beyond, laid_beyond, shows_beyond
from leastlays.ways import pieces, way
from tests.helper import capped_box, least_among, long_answer, long_below, long_within, to_sides, together

# Texts, and the numbers up to which all vectors are gone through: all least answers, to the sides too, lie among these.
WHOLE = (
    ("of x", (4,)),
    ("of x\nsum 3 x = 6\ncap x 1\nprice x 2", (4,)),
    ("of x y\ncap y 1\nprice x 1\nprice y 3", (3, 3)),
    ("of x y\nsum 2 x = 3 y + 1\ncap x 4\nprice y 5", (6, 5)),
    ("of x y\nsum 2 x = 4 y + 1\nprice x 1", (5, 5)),
    ("of x y\nsum x + y = 0", (2, 2)),
    ("of x y z\nsum x + y = 2 z\ncap x 1\nprice z 1", (4, 4, 4)),
    ("of x y z\nsum x + y = 2 z + 3\ncap z 0\nprice x 5\nprice y 2", (5, 5, 3)),
    ("of x y z\nsum 3 x + 5 y = 7 z + 2\ncap x 3\nprice x 1\nprice y 1\nprice z 1", (7, 7, 5)),
    ("of x y z\nsum x = 2 y\nsum y = 3 z + 1\nprice x 1\nprice y 1000000000000", (8, 4, 3)),
    ("of x y z\nsum x = y\nsum y = z\nsum z = x\ncap y 0", (2, 2, 2)),
    ("of sum of cap price\nsum sum + of = cap + price\ncap sum 1\nprice of 2\nprice cap 1", (3, 3, 3, 3)),
    ("of a b c d\nsum a + 2 b = c + 2 d\nsum a + c = b + d\nprice a 3\ncap d 2", (4, 4, 4, 4)),
    ("of a b c d\nsum a + b = c + d + 1\nsum 2 a + 1 = b + c\nprice d 1", (3, 5, 5, 5)),
    ("of a b c d e\nsum a + b + 3 = 3\nsum c = d\nsum d = e + 1", (1, 1, 2, 2, 2)),
)

SYSTEMS = tuple([(read_system(text), tops) for text, tops in WHOLE])


def some_caps(system, tops):
    """Caps for the system: its own, none, those of the box, half of these."""
    return (system[3], free(len(tops)), tops, tuple([top // 2 for top in tops]))


def in_box(rows, caps, tops):
    """The answers of the box within the caps, nought among them."""
    return [one for one in capped_box(tops) if long_within(caps, one) and long_answer(rows, one)]


def cases():
    """Rows, caps, the numbers of the box, and what is told of them."""
    for system, tops in SYSTEMS:
        for caps in some_caps(system, tops):
            told, paper = least(system[1], caps, 2000)
            yield system[1], caps, tops, told, paper


class Whole(unittest.TestCase):
    def test_the_boxes_are_great_enough(self):
        for system, tops in SYSTEMS:
            told, base, paper = beyond(system[1], system[2], len(tops), 2000)
            self.assertTrue(all(long_below(one, tops) for one in told + base), system)

    def test_a_each_told_one_is_an_answer_and_no_sum_of_two_others(self):
        for rows, caps, tops, told, paper in cases():
            others = [one for one in in_box(rows, free(len(tops)), tops) if any(one)]
            for one in told:
                self.assertTrue(long_answer(rows, one) and long_within(caps, one) and any(one))
                below = [other for other in others if other != one and long_below(other, one)]
                self.assertEqual(below, [])
            pairs = itertools.combinations_with_replacement(others[:30], 2)
            self.assertEqual([pair for pair in pairs if together(len(tops), pair) in told], [])

    def test_b_every_answer_is_a_sum_of_told_ones(self):
        for rows, caps, tops, told, paper in cases():
            for one in in_box(rows, caps, tops):
                counts = laid(told, one)
                self.assertIs(is_lay(told, one, counts), True)
                parts = [part for part, many in zip(told, counts) for again in range(many)]
                self.assertEqual(together(len(tops), parts), one)
                self.assertEqual(together(len(tops), pieces(rows, one)), one)
                self.assertEqual(len(way(rows, one)), sum(one))
                self.assertLessEqual(sum(fewest(told, one)), sum(counts))

    def test_b_all_lays_and_all_answers(self):
        for rows, caps, tops, told, paper in cases():
            if None not in caps:
                found = in_box(rows, caps, tops)
                self.assertEqual(answers(told, caps, len(found)), tuple(found))
                for one in found[-3:]:
                    every = lays(told, one, 2000)
                    self.assertIn(laid(told, one), every)
                    self.assertEqual(fewest(told, one), min(every, key=lambda counts: (sum(counts), counts)))

    def test_c_the_looker_takes_the_least_answers_alone(self):
        for rows, caps, tops, told, paper in cases():
            within = [one for one in in_box(rows, caps, tops) if any(one)]
            right = least_among(within)
            self.assertEqual(told, right)
            # The paper that was told, and every vector of the box within the caps: where the box isn't the caps'
            # own, a step may lead out of it, so only the told ones decide there.
            everything = tuple([one for one in capped_box(tops) if any(one) and long_within(caps, one)])
            self.assertIs(shows(rows, caps, told, paper), True)
            if caps == tops:
                self.assertIs(shows(rows, caps, told, everything), True)
            wrong = [told[:k] + told[k + 1:] for k in range(len(told))]
            wrong += [tuple(sorted(told + (one,))) for one in within if one not in told]
            for other in wrong[:20]:
                self.assertIs(shows(rows, caps, other, paper), False)
                self.assertIs(shows(rows, caps, other, everything), False)

    def test_d_the_finding_ends_or_says_that_there_are_too_many(self):
        for rows, caps, tops, told, paper in cases():
            finder = Finder(rows, caps)
            steps = []
            while not finder.ended():
                steps.append(finder.step())
            self.assertEqual((finder.told(), finder.paper(), sum(steps)), (told, paper, len(paper)))
            self.assertEqual(least(rows, caps, len(paper)), (told, paper))
            for most in range(len(paper)):
                with self.assertRaises(TooMany):
                    least(rows, caps, most)

    def test_e_every_answer_to_the_sides_is_one_beyond_and_a_sum(self):
        for system, tops in SYSTEMS:
            told, base, paper = beyond(system[1], system[2], len(tops), 2000)
            found = to_sides(system[1], system[2], tops)
            self.assertEqual(told, least_among(found))
            self.assertEqual(base, least(system[1], free(len(tops)), 2000)[0])
            self.assertIs(shows_beyond(system[1], system[2], len(tops), told, base, paper), True)
            for one in found:
                k, counts = laid_beyond(told, base, one)
                parts = [part for part, many in zip(base, counts) for again in range(many)]
                self.assertEqual(together(len(tops), [told[k]] + parts), one)

    def test_f_row_by_row_in_any_order(self):
        for system, tops in SYSTEMS:
            told = least(system[1], free(len(tops)), 2000)[0]
            for rows in itertools.permutations(system[1]):
                stages = by_rows(rows, len(tops), 2000)
                self.assertEqual(stages[-1], told)
                for k in range(len(rows) + 1):
                    self.assertEqual(stages[k], least(rows[:k], free(len(tops)), 2000)[0])
                for k, row in enumerate(rows):
                    self.assertEqual(narrowed(stages[k], row, 2000)[0], stages[k + 1])

    def test_f_side_by_side_without_one_and_turned(self):
        for system, tops in SYSTEMS:
            width = len(tops)
            told = least(system[1], free(width), 2000)[0]
            for order in itertools.islice(itertools.permutations(range(width)), 12):
                rows = tuple([tuple([row[j] for j in order]) for row in system[1]])
                self.assertEqual(turned(told, order), least(rows, free(width), 2000)[0])
            for j in range(width if width > 1 else 0):
                rows = tuple([row[:j] + row[j + 1:] for row in system[1]])
                self.assertEqual(dropped(told, j), least(rows, free(width - 1), 2000)[0])
            rows = tuple([row + (0, 0) for row in system[1]]) + ((0,) * width + (1, -2),)
            self.assertEqual(beside(told, width, ((2, 1),), 2), least(rows, free(width + 2), 2000)[0])

    def test_g_no_answer_but_nought_costs_less(self):
        for system, tops in SYSTEMS:
            prices = system[4]
            base = least(system[1], free(len(tops)), 2000)[0]
            found = cheapest(base, prices)
            for one in in_box(system[1], free(len(tops)), tops):
                self.assertTrue(not any(one) or cost(prices, one) >= found[0])
            found = cheapest(beyond(system[1], system[2], len(tops), 2000)[0], prices)
            for one in to_sides(system[1], system[2], tops):
                self.assertLessEqual(found[0], cost(prices, one))

    def test_h_what_is_written_is_read_as_it_was(self):
        for system, tops in SYSTEMS:
            self.assertEqual(read_system(show_system(system)), system)
            self.assertEqual(show_system(read_system(show_system(system))), show_system(system))
        for rows, caps, tops, told, paper in cases():
            self.assertEqual(read_paper(show_paper(told, paper)), (told, paper))
            self.assertIs(shows(rows, caps, *read_paper(show_paper(told, paper))), True)

    def test_h_the_desk_answers_as_all_these_do(self):
        for text, tops in WHOLE:
            names, rows, sides, caps, prices = read_system(text)
            desk = Desk(text)
            told, base, paper = beyond(rows, sides, len(names), 2000)
            found = cheapest(told, prices)
            self.assertEqual(desk.say("least 2000"), self.written(least(rows, caps, 2000)[0]))
            self.assertEqual(desk.say("beyond 2000"), self.written(told) + " | " + self.written(base))
            self.assertEqual(desk.say("cheapest 2000"), f"{found[0]}: {self.written(found[1:])}" if found else "-")
            self.assertEqual(
                desk.say("rows 2000"), " ".join([str(len(stage)) for stage in by_rows(rows, len(names), 2000)]))
            for one in in_box(rows, free(len(names)), tops)[1:20]:
                numbers = self.written((one,))
                self.assertEqual(desk.say("way " + numbers), " ".join([names[j] for j in way(rows, one)]))
                counts = [(many, part) for many, part in zip(laid(base, one), base) if many > 0]
                self.assertEqual(
                    desk.say("lay 2000 " + numbers),
                    " + ".join([f"{many} * {self.written((part,))}" for many, part in counts]))

    def written(self, some):
        """Vectors as the desk writes them."""
        return "; ".join([" ".join([str(number) for number in one]) for one in some]) if some else "-"

    def test_h_the_desk_of_the_text_written_again(self):
        for text, tops in WHOLE:
            first, second = Desk(text), Desk(show_system(read_system(text)))
            for line in ("least 50", "least 2000", "beyond 60", "beyond 2000", "cheapest 2000", "rows 20", "rows 2000"):
                self.assertEqual(first.say(line), second.say(line))


class EverySmallSystem(unittest.TestCase):
    ROWS = tuple(itertools.product((-2, -1, 0, 1, 2), repeat=3))

    def test_each_row_and_side(self):
        # The numbers of a least answer to such a row, with such a side, are at most 4.
        for row in self.ROWS:
            for side in (-1, 0, 2):
                system = (("x", "y", "z"), (row,), (side,), (None, 1, None), (1, 1, 1))
                told, base, paper = beyond((row,), (side,), 3, 2000)
                self.assertEqual(told, least_among(to_sides((row,), (side,), (4, 4, 4))))
                self.assertIs(shows_beyond((row,), (side,), 3, told, base, paper), True)
                desk = Desk(show_system(system))
                within = least_among([one for one in in_box((row,), (None, 1, None), (4, 4, 4)) if any(one)])
                self.assertEqual(desk.say("least 2000").count(";"), max(0, len(within) - 1))
                found = cheapest(told, (1, 1, 1))
                self.assertEqual(desk.say("cheapest 2000").split(":")[0], str(found[0]) if found else "-")

    def test_each_two_rows(self):
        for first, second in itertools.combinations(self.ROWS[::7], 2):
            told, paper = least((first, second), free(3), 2000)
            self.assertEqual(by_rows((first, second), 3, 2000)[-1], told)
            self.assertEqual(by_rows((second, first), 3, 2000)[-1], told)
            self.assertIs(shows((first, second), free(3), told, paper), True)


if __name__ == "__main__":
    unittest.main()
