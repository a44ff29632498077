"""Points [25] and [26]: texts written, and [3] (h): what is written is read as it was."""

import itertools
import unittest

from leastlays.caps import free
from leastlays.finding import least
from leastlays.looking import shows
from leastlays.reading import read_paper, read_system
from leastlays.showing import show_paper, show_system
from leastlays.sides import beyond, shows_beyond
from tests.helper import BOXES, MANY, SIDED, SYSTEMS
from tests.texts import BASES, OTHER_FORM, PAPERS, SHOWN, lines_changed, long_read_system

NAMES = ("x", "sum", "abcdefgh", "of", "z", "price", "cap")


def some_systems():
    """Systems of each width, with numbers of all signs and with caps and prices at all places."""
    for rows, width in SYSTEMS:
        if width < 8:
            for side in (0, 1, -1, 12, MANY, -MANY):
                sides = tuple([side * (-1) ** k for k in range(len(rows))])
                yield (NAMES[:width], rows, sides, (None,) * width, (0,) * width)
                yield (NAMES[-width:], rows, sides, tuple(range(width)), tuple(range(width))[::-1])
    for row in itertools.product((-2, -1, 0, 1, 2), repeat=2):
        for side in (-2, -1, 0, 1, 2):
            for caps in itertools.product((None, 0, 1), repeat=2):
                for prices in ((0, 0), (0, 1), (2, 0), (3, MANY)):
                    yield (("b", "a"), (row, row[::-1]), (side, -side), caps, prices)


class ShowSystem(unittest.TestCase):
    def test_word_for_word(self):
        for text, system in SHOWN:
            self.assertEqual(show_system(system), text)
            self.assertIs(type(show_system(system)), str)

    def test_the_names_in_their_order(self):
        for names in itertools.permutations(("x", "y", "z")):
            system = (names, (), (), (1, None, 2), (0, 3, 4))
            self.assertEqual(show_system(system), (
                f"of {names[0]} {names[1]} {names[2]}\ncap {names[0]} 1\ncap {names[2]} 2\n"
                f"price {names[1]} 3\nprice {names[2]} 4"))

    def test_each_sign_of_row_and_side(self):
        # The row's number and its side, and what is written behind the word.
        for number, side, words in (
            (0, 0, "0 = 0"), (1, 0, "x = 0"), (2, 0, "2 x = 0"), (-1, 0, "0 = x"), (-2, 0, "0 = 2 x"),
            (0, 1, "0 = 1"), (1, 1, "x = 1"), (2, 1, "2 x = 1"), (-1, 1, "0 = x + 1"), (-2, 1, "0 = 2 x + 1"),
            (0, -1, "1 = 0"), (1, -1, "x + 1 = 0"), (2, -1, "2 x + 1 = 0"), (-1, -1, "1 = x"), (-2, -1, "1 = 2 x"),
            (11, -12, "11 x + 12 = 0"), (-11, 12, "0 = 11 x + 12"), (MANY, MANY, f"{MANY} x = {MANY}"),
        ):
            self.assertEqual(show_system((("x",), ((number,),), (side,), (None,), (0,))), "of x\nsum " + words)

    def test_caps_of_nought_are_written_and_prices_of_nought_not(self):
        self.assertEqual(show_system((("x", "y"), (), (), (0, 0), (0, 0))), "of x y\ncap x 0\ncap y 0")
        self.assertEqual(show_system((("x", "y"), (), (), (None, None), (0, 0))), "of x y")

    def test_what_is_written_is_read_as_it_was(self):
        for system in some_systems():
            text = show_system(system)
            self.assertEqual(read_system(text), system)
            self.assertEqual(long_read_system(text), system)
            self.assertRegex(text, r"\A[a-z0-9+= \n]*\Z")
            self.assertNotRegex(text, "  | \n|\n |\n\n|[ \n]\\Z|\\b1 [a-z]+ [+=]")

    def test_unlike_systems_have_unlike_texts(self):
        systems = set(some_systems())
        self.assertEqual(len({show_system(system) for system in systems}), len(systems))

    def test_another_form_is_written_in_the_one_way(self):
        for text, system in OTHER_FORM:
            self.assertNotEqual(show_system(read_system(text)), text)
            self.assertEqual(show_system(read_system(text)), show_system(system))
            self.assertEqual(read_system(show_system(read_system(text))), system)
        text = "of x y\nprice y 0\nprice x 7\ncap y 2\nsum 3 + y + 1 x = 2 y + y + 5 + x + x\ncap x 1"
        told = "of x y\nsum 0 = x + 2 y + 2\ncap x 1\ncap y 2\nprice x 7"
        self.assertEqual(show_system(read_system(text)), told)

    def test_whatever_is_read_is_read_again_from_what_is_written(self):
        for base in BASES:
            for text in lines_changed(base):
                system = long_read_system(text)
                if type(system) is tuple:
                    self.assertEqual(read_system(show_system(read_system(text))), system)


class ShowPaper(unittest.TestCase):
    def test_word_for_word(self):
        for text, told in PAPERS:
            self.assertEqual(show_paper(told[0], told[1]), text)
            self.assertIs(type(show_paper(told[0], told[1])), str)

    def test_of_neither(self):
        self.assertEqual(show_paper((), ()), "")
        self.assertEqual(read_paper(""), ((), ()))

    def test_in_the_order_handed_in(self):
        for told in itertools.permutations(((1, 2), (0, 3), (2, 0))):
            text = show_paper(told, told[::-1])
            lines = [f"least {a} {b}" for a, b in told] + [f"step {a} {b}" for a, b in told[::-1]]
            self.assertEqual(text, "\n".join(lines))
            self.assertEqual(read_paper(text), (told, told[::-1]))

    def test_great_numbers(self):
        one = (10 ** 60 - 1, 10 ** 59, MANY, 0)
        self.assertEqual(show_paper((one,), (one,)), "\n".join([
            word + " " + "9" * 60 + " 1" + "0" * 59 + " 1000000000000 0" for word in ("least", "step")]))
        self.assertEqual(read_paper(show_paper((one,), (one,))), ((one,), (one,)))

    def test_read_again_and_taken_by_the_looker(self):
        for rows, tops in BOXES:
            for caps in (free(len(tops)), tops):
                told, paper = least(rows, caps, 2000)
                again = read_paper(show_paper(told, paper))
                self.assertEqual(again, (told, paper))
                self.assertIs(shows(rows, caps, *again), True)
                if len(told) > 0:
                    fewer = read_paper(show_paper(told[1:], paper))
                    self.assertIs(shows(rows, caps, *fewer), False)

    def test_beyond_read_again_and_taken_by_the_looker(self):
        for rows, sides, tops in SIDED:
            told, base, paper = beyond(rows, sides, len(tops), 2000)
            ones = read_paper(show_paper(told, base))
            walk = read_paper(show_paper((), paper))
            self.assertEqual((ones, walk), ((told, base), ((), paper)))
            self.assertIs(shows_beyond(rows, sides, len(tops), *ones, walk[1]), True)


if __name__ == "__main__":
    unittest.main()
