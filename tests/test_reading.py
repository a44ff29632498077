"""Points [24], [25] and [26]: texts read."""

import itertools
import unittest

from leastlays.errors import LayError, NoText
from leastlays.reading import read_paper, read_system
from tests.helper import MANY, stray_kinds
from tests.texts import BASES, OTHER_FORM, PAPERS, SHOWN, changed, lines_changed, long_read_paper, long_read_system

# Signs that no text of the right form has, or only at some places.
SIGNS = " \n\t\r\f\v\0+=-09a1Az,.;_~\u00a0\u0661\u00b2\u2028\u00e9"

# No first line of a system's text is one of these (of a few, the first line of their own isn't).
WRONG_FIRST = (
    "", " ", "of", "of ", " of x", "of x ", "of  x", "of x  y", "of\tx", "of x\ty", "of\nx", "x", "of x of x", "Of x",
    "OF x", "off x", "o x", "f x", "ofx", "of x x", "of x y x", "of a b c d e f g h", "of a b c d e f g h i",
    "of abcdefghi", "of x abcdefghi", "of X", "of xY", "of x1", "of 1", "of 1 x", "of x + y", "of x,y", "of x, y",
    "of x_y", "of x-y", "of \u00e9", "of x\u00e9", "of \u00aa", "of \u0131", "of x\r", "of x = y", "of =", "of 0",
    "sum 0 = 0", "cap x 1", "price x 1", "least 1", "\tof x", "of x\0", "of x%", "of %", "of x;", "of \u0430",
)

# None of these may stand behind the line `of x y`.
WRONG_LATER = (
    "", " ", "of x y", "of a", "of", "x", "sum", "sum ", "sum =", "sum = ", "sum  = ", "sum x", "sum x y", "sum x =",
    "sum = x", "sum x = ", "sum x=y", "sum x= y", "sum x =y", "sum x == y", "sum x = y = x", "sum x = = y",
    "sum = x = y", "sum x = y =", "sum x + = y", "sum + x = y", "sum x + + y = 0", "sum x = + y", "sum x = y +",
    "sum x + y + = 0", "sum + = 0", "sum + = +", "sum x+y = 0", "sum x +y = 0", "sum x+ y = 0", "sum x y = 0",
    "sum 2 3 x = 0", "sum 2 3 = 0", "sum x 2 = 0", "sum 2 x y = 0", "sum 2x = 0", "sum 2 * x = 0", "sum 0 x = 0",
    "sum 0 = 0 x", "sum 0 + x = 0", "sum x + 0 = 0", "sum 0 + 0 = 0", "sum 0 = x + 0", "sum 0 = 0 + x",
    "sum 0 = 0 + 3", "sum 3 + 0 = x", "sum x + 0 y = 0", "sum 00 = 0", "sum 0 = 00", "sum 01 x = 0", "sum 01 = x",
    "sum x = 02 y", "sum -1 x = 0", "sum - x = 0", "sum -x = 0", "sum +1 x = 0", "sum x - y = 0", "sum x = -3",
    "sum x = +3", "sum x = 1.0", "sum x = 1e3", "sum x = 1_0", "sum x = 0x1", "sum w = 0", "sum x = w",
    "sum 2 w = 0", "sum x + w = 0", "sum X = 0", "sum sum = 0", "sum x = cap", " sum x = 0", "sum  x = 0",
    "sum x  = 0", "sum x =  0", "sum x = 0 ", "sum 2  x = 0", "sum x  + y = 0", "sum x +  y = 0", "sum\tx = 0",
    "sum x\t= 0", "sum x =\t0", "sum x = 0\t", "sum x = 0\r", "Sum x = 0", "SUM x = 0", "sums x = 0", "su x = 0",
    "sumx = 0", "x = 0", "sum x < 0", "sum x \u2260 0", "sum x = \u0661", "sum \u0661 x = 0", "sum x = \u00b2",
    f"sum {MANY + 1} x = 0", f"sum x = {MANY + 1}", f"sum {MANY + 1} = x", f"sum 0 = {MANY + 1} y",
    f"sum {MANY + 1} x = {MANY + 1} x", f"sum {MANY + 1} = {MANY + 1}", "sum 9999999999999 x = 0",
    "sum 10000000000000 x = 0", "sum 0 = 10000000000000", "sum 01000000000000 x = 0", "sum 0 = " + "9" * 5000,
    "sum " + "1" + "0" * 9000 + " x = 0", f"sum {MANY} x + x = 0", f"sum 0 = {MANY} x + x", f"sum {MANY} + 1 = 0",
    f"sum 0 = {MANY} + 1", f"sum x + {MANY} x = y", f"sum y = 1 + {MANY}", f"sum {MANY} x + 2 x = x",
    f"sum y = {MANY} y + 2 y", f"sum x + 1 = {MANY} + 2", f"sum 2 + {MANY} = 1 + x",
    "cap", "cap x", "cap x ", "cap  x 1", "cap x  1", "cap x 1 ", " cap x 1", "cap x 1 2", "cap x y", "cap x y 1",
    "cap 1 x", "cap 1", "cap x 01", "cap x 00", "cap x -1", "cap x +1", "cap x None", "cap x 1.0", "cap w 1",
    "cap X 1", "cap xy 1", "cap  1", f"cap x {MANY + 1}", "cap x 10000000000000", "cap x 0" + "0" * 12,
    "cap x " + "1" * 6000, "cap x = 1", "cap\tx 1", "cap x\t1", "cap x 1\t", "cap x \u0661", "caps x 1", "ca x 1",
    "Cap x 1", "cap x \u00b2", "cap cap 1", "cap x 1,", "cap x 1\r",
    "price", "price x", "price x ", "price  x 1", "price x  1", "price x 1 ", " price x 1", "price x 1 2",
    "price x y", "price x y 1", "price 1 x", "price 1", "price x 01", "price x 00", "price x -1", "price x +1",
    "price x 1.0", "price w 1", "price X 1", "price xy 1", "price  1", f"price x {MANY + 1}",
    "price x 10000000000000", "price x 0" + "0" * 12, "price x " + "1" * 6000, "price x = 1", "price\tx 1",
    "price x\t1", "price x \u0661", "prices x 1", "pric x 1", "Price x 1", "price price 1", "price x 1\r",
    "least 1", "step 1", "least 1 2", "#", "# remark", "-", "0", "=", "+", "\t", "\r", "\u00a0", "\0", "%",
    "cost x 1", "side x 1", "row x 1", "x 1", "name x",
)

# Each with the number of the first line that isn't one.
WRONG_PAPER = (
    ("\n", 1), (" ", 1), ("least", 1), ("step", 1), ("least ", 1), ("step ", 1), ("least 1\n", 2), ("step 1\n", 2),
    ("\nleast 1", 1), ("least 1\n\nstep 1", 2), (" least 1", 1), ("least  1", 1), ("least 1 ", 1), ("least 1  2", 1),
    ("least\t1", 1), ("least 1\t2", 1), ("least 1\r\nstep 1", 1), ("Least 1", 1), ("leas 1", 1), ("steps 1", 1),
    ("1", 1), ("1 2", 1), ("least a", 1), ("least 1 a", 1), ("least -1", 1), ("least +1", 1), ("least 1.0", 1),
    ("least 01", 1), ("least 00", 1), ("step 1 02", 1), ("least 1 2 3 4 5 6 7 8 9", 1),
    ("step 1 2 3 4 5 6 7 8 9", 1), ("least 1\nleast 1 2 3 4 5 6 7 8 9", 2), ("least 1 2\nleast 1", 2),
    ("least 1 2\nleast 1 2 3", 2), ("least 1 2\nstep 1", 2), ("least 1 2\nstep 1 2 3", 2), ("step 1 2\nstep 1", 2),
    ("step 1 2\nstep 3 4\nstep 1 2 3", 3), ("step 1 2\nleast 1 2", 2), ("least 1 2\nstep 1 2\nleast 2 3", 3),
    ("step 1\nstep 2\nleast 1\nstep 1 2", 3), ("least 1\nleast 2\nother 3", 3), ("sum 1", 1), ("of x", 1),
    ("least " + "1" * 61, 1), ("least " + "9" * 61, 1), ("step 1\nstep 1" + "0" * 60, 2), ("least 0" + "1" * 59, 1),
    ("least " + "1" * 5000, 1), ("least \u0661", 1), ("least \u00b2", 1), ("least 1\u00a02", 1), ("least 1,2", 1),
    ("least 1; 2", 1), ("- 1", 1), ("least 1\nleast 01\nleast a", 2), ("least 1\nleast\nstep", 2), ("%", 1),
)


class Reading(unittest.TestCase):
    def refused(self, read, text, line):
        with self.assertRaises(NoText) as caught:
            read(text)
        self.assertEqual(caught.exception.line, line, repr(text)[:200])
        self.assertIs(type(caught.exception), NoText)
        self.assertIs(type(caught.exception.line), int)
        self.assertIsInstance(caught.exception, LayError)

    def as_told(self, read, text, told):
        """What is told of the text, or the line that it is refused with."""
        if type(told) is int:
            self.refused(read, text, told)
        else:
            self.assertEqual(read(text), told, repr(text))


class Systems(Reading):
    def test_written_by_show_system(self):
        for text, system in SHOWN:
            self.assertEqual(read_system(text), system)

    def test_of_other_form(self):
        for text, system in OTHER_FORM:
            self.assertEqual(read_system(text), system)

    def test_kinds(self):
        for text, system in SHOWN + OTHER_FORM:
            told = read_system(text)
            self.assertEqual(stray_kinds(told), [])
            self.assertEqual([type(part) for part in told], [tuple] * 5)
            self.assertEqual([len(part) for part in told[3:]], [len(told[0])] * 2)
            self.assertNotRegex(repr(told), "True|False")

    def test_names_of_each_count(self):
        for many in range(1, 8):
            names = tuple("abcdefg"[:many])
            self.assertEqual(read_system("of " + " ".join(names)), (names, (), (), (None,) * many, (0,) * many))
            self.assertEqual(read_system("of " + " ".join(names[::-1]))[0], names[::-1])

    def test_names_of_each_length_and_letter(self):
        for length in range(1, 9):
            self.assertEqual(read_system("of " + "z" * length)[0], ("z" * length,))
        self.refused(read_system, "of " + "z" * 9, 1)
        for letter in "abcdefghijklmnopqrstuvwxyz":
            self.assertEqual(read_system(f"of {letter}\nsum {letter} = 0")[:2], ((letter,), ((1,),)))
            self.refused(read_system, f"of {letter.upper()}", 1)

    def test_lines_in_any_order(self):
        lines = ("sum x = 2 y + 1", "cap x 1", "price x 2", "cap y 3", "price y 4")
        for some in itertools.permutations(lines):
            told = read_system("of x y\n" + "\n".join(some))
            self.assertEqual(told, (("x", "y"), ((1, -2),), (1,), (1, 3), (2, 4)))

    def test_rows_in_their_order(self):
        lines = ("sum x = 1", "sum 2 x = 2", "cap x 1", "sum 3 x = 3")
        for some in itertools.permutations(lines):
            told = read_system("of x\n" + "\n".join(some))
            numbers = [int(line[-1]) for line in some if line[0] == "s"]
            self.assertEqual(told[1:3], (tuple([(number,) for number in numbers]), tuple(numbers)))

    def test_terms_in_any_order(self):
        for left in itertools.permutations(("x", "2 y", "x", "3", "4 x")):
            text = "of x y\nsum " + " + ".join(left) + " = y + 10"
            self.assertEqual(read_system(text)[1:3], (((6, 1),), (7,)))

    def test_up_to_six_sums(self):
        for many in range(1, 7):
            told = read_system("of x" + "\nsum x = 1" * many)
            self.assertEqual(told[1:3], (((1,),) * many, (1,) * many))
        self.refused(read_system, "of x" + "\nsum x = 1" * 7, 8)
        self.refused(read_system, "of x" + "\nsum x = 1" * 9, 8)
        self.refused(read_system, "of x" + "\nsum x = 1" * 6 + "\ncap x 1\nsum 0 = 0", 9)
        self.assertEqual(read_system("of x" + "\nsum x = 1" * 6 + "\ncap x 1")[3], (1,))

    def test_all_names_capped_and_priced(self):
        names = "abcdefg"
        lines = [f"cap {name} {k}" for k, name in enumerate(names)]
        lines += [f"price {name} {10 * k}" for k, name in enumerate(names)]
        for some in (lines, lines[::-1], lines[::2] + lines[1::2]):
            told = read_system("of a b c d e f g\n" + "\n".join(some))
            self.assertEqual(told[3:], (tuple(range(7)), tuple(range(0, 70, 10))))

    def test_numbers_at_the_edge(self):
        for word in ("cap", "price"):
            at = {"cap": 3, "price": 4}[word]
            for number in (0, 1, 9, 10, 10 ** 11, MANY - 1, MANY):
                self.assertEqual(read_system(f"of x\n{word} x {number}")[at], (number,))
            for number in (MANY + 1, 2 * MANY, 9999999999999, 10 ** 13, 10 ** 20):
                self.refused(read_system, f"of x\n{word} x {number}", 2)
        for number in (2, 9, 10, 10 ** 11, MANY - 1, MANY):
            self.assertEqual(read_system(f"of x\nsum {number} x = 0")[1], ((number,),))
            self.assertEqual(read_system(f"of x\nsum 0 = {number} x")[1], ((-number,),))
            self.assertEqual(read_system(f"of x\nsum 0 = {number}")[2], (number,))
            self.assertEqual(read_system(f"of x\nsum {number} = 0")[2], (-number,))

    def test_many_terms(self):
        text = "of x\nsum " + " + ".join(["x"] * 1000 + ["1"] * 400) + " = 0"
        self.assertEqual(read_system(text)[1:3], (((1000,),), (-400,)))
        # Far above the greatest number on the way, on both sides, and within it at last.
        text = "of x\nsum " + " + ".join([f"{MANY} x"] * 100) + " = " + " + ".join([f"{MANY} x"] * 99)
        self.assertEqual(read_system(text)[1], ((MANY,),))

    def test_an_of_line_that_is_none(self):
        for text in WRONG_FIRST:
            self.refused(read_system, text, 1)
            self.refused(read_system, text + "\nsum 0 = 0", 1)
            self.refused(read_system, text + "\n" + text, 1)

    def test_a_later_line_that_is_none(self):
        for line in WRONG_LATER:
            self.refused(read_system, "of x y\n" + line, 2)
            self.refused(read_system, "of x y\ncap y 1\nsum x = y\n" + line + "\nsum x = y", 4)
            self.refused(read_system, "of x y\n" + line + "\n" + line, 2)

    def test_a_second_cap_or_price(self):
        for word in ("cap", "price"):
            for first, second in ((1, 2), (1, 1), (0, 0), (0, 5)):
                self.refused(read_system, f"of x y\n{word} x {first}\n{word} x {second}", 3)
                self.refused(read_system, f"of x y\n{word} x {first}\n{word} y 1\n{word} x {second}\nsum", 4)
        self.assertEqual(read_system("of x\ncap x 1\nprice x 2")[3:], ((1,), (2,)))

    def test_empty_lines(self):
        self.refused(read_system, "", 1)
        self.refused(read_system, "\n", 1)
        self.refused(read_system, "\nof x", 1)
        self.refused(read_system, "of x\n", 2)
        self.refused(read_system, "of x\n\n", 2)
        self.refused(read_system, "of x\n\nsum x = 0", 2)
        self.refused(read_system, "of x\nsum x = 0\n", 3)

    def test_the_first_of_two_wrong_lines(self):
        self.refused(read_system, "of x\ncap x 1\ncap y 1\nprice y 1", 3)
        self.refused(read_system, "of x x\ncap y 1", 1)
        self.refused(read_system, "of x\nwhat\nof x", 2)
        self.refused(read_system, "of x" + "\nsum 0 = 0" * 5 + "\nsum y = 0\nsum 0 = 0\nsum 0 = 0", 7)

    def test_each_sign_changed(self):
        for text in BASES:
            self.assertEqual(read_system(text), long_read_system(text))
            for other in changed(text, SIGNS):
                self.as_told(read_system, other, long_read_system(other))

    def test_each_line_changed(self):
        for text in BASES + tuple([text for text, system in SHOWN + OTHER_FORM]):
            for other in lines_changed(text):
                self.as_told(read_system, other, long_read_system(other))

    def test_each_word_changed(self):
        words = ("x", "y", "sum", "cap", "0", "1", "+", "=", "7", "w", "of", str(MANY), str(MANY + 1), "")
        for text in BASES:
            # The line feeds count as words here, so that lines are parted and put together too.
            parts = text.replace("\n", " \n ").split(" ")
            for k in range(len(parts)):
                for word in words + ("\n",):
                    for some in (parts[:k] + [word] + parts[k:], parts[:k] + [word] + parts[k + 1:]):
                        other = " ".join(some).replace(" \n ", "\n")
                        self.as_told(read_system, other, long_read_system(other))

    def test_asked_again(self):
        for again in range(2):
            self.refused(read_system, "of x\ncap x 1\ncap x 2", 3)
            self.assertEqual(read_system("of x\ncap x 1"), (("x",), (), (), (1,), (0,)))
            self.assertEqual(read_system("of x\nsum x = 1"), (("x",), ((1,),), (1,), (None,), (0,)))


class Papers(Reading):
    def test_told(self):
        for text, told in PAPERS:
            self.assertEqual(read_paper(text), told)
            self.assertEqual(stray_kinds(read_paper(text)), [])
            self.assertEqual([type(part) for part in read_paper(text)], [tuple] * 2)

    def test_refused(self):
        for text, line in WRONG_PAPER:
            self.refused(read_paper, text, line)

    def test_each_width(self):
        for width in range(1, 9):
            words = " ".join([str(k) for k in range(width)])
            one = tuple(range(width))
            self.assertEqual(read_paper(f"least {words}\nstep {words}"), ((one,), (one,)))
            for other in range(0, 12):
                line = "".join([f" {k}" for k in range(other)])
                if other != width:
                    self.refused(read_paper, f"least {words}\nleast{line}", 2)
                    self.refused(read_paper, f"least {words}\nstep{line}", 2)
                    self.refused(read_paper, f"step {words}\nstep {words}\nstep{line}", 3)

    def test_figures_up_to_sixty(self):
        for many in range(1, 70):
            for figures in ("1" + "0" * (many - 1), "9" * many):
                for text, line in ((f"least {figures}", 1), (f"least 1 2\nstep 3 {figures}", 2)):
                    if many > 60:
                        self.refused(read_paper, text, line)
                    else:
                        self.assertEqual(read_paper(text)[line - 1][0][-1], int(figures))

    def test_each_sign_changed(self):
        for text in ("least 0 12\nleast 3 4\nstep 10 9", "step 1\nstep 2", "least 1", ""):
            self.assertEqual(read_paper(text), long_read_paper(text))
            for other in changed(text, SIGNS):
                self.as_told(read_paper, other, long_read_paper(other))

    def test_each_line_changed(self):
        for text in [text for text, told in PAPERS] + [text for text, line in WRONG_PAPER]:
            for other in lines_changed(text):
                self.as_told(read_paper, other, long_read_paper(other))

    def test_two_texts_one_behind_another(self):
        texts = [text for text, told in PAPERS]
        for first, second in itertools.product(texts, repeat=2):
            text = first + "\n" + second
            self.as_told(read_paper, text, long_read_paper(text))

    def test_long(self):
        text = "\n".join([f"least {k}" for k in range(2000)] + [f"step {k}" for k in range(3000)])
        told, paper = read_paper(text)
        self.assertEqual(told, tuple([(k,) for k in range(2000)]))
        self.assertEqual(paper, tuple([(k,) for k in range(3000)]))
        self.refused(read_paper, text + "\nleast 1", 5001)


if __name__ == "__main__":
    unittest.main()
