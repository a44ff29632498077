"""Point [2], last sentence, and the interface's first row."""

import unittest

from leastlays.errors import LayError, NoAnswer, NoLay, NoLine, NoText, TooMany

TEXTED = (TooMany, NoAnswer, NoLay, NoLine)
REFUSALS = TEXTED + (NoText,)


class Refusals(unittest.TestCase):
    def test_lay_error_is_a_value_error(self):
        self.assertEqual(LayError.__bases__, (ValueError,))

    def test_each_stands_straight_under_lay_error(self):
        for refusal in REFUSALS:
            self.assertEqual(refusal.__bases__, (LayError,), refusal)

    def test_an_object_is_of_no_other_refusal(self):
        for refusal in REFUSALS:
            told = refusal(3) if refusal is NoText else refusal("words")
            self.assertIsInstance(told, LayError)
            self.assertIsInstance(told, ValueError)
            self.assertEqual([other for other in REFUSALS if isinstance(told, other)], [refusal])

    def test_made_with_a_text(self):
        for refusal in TEXTED:
            for text in ("", "words", "two\nlines"):
                self.assertEqual(str(refusal(text)), text)

    def test_no_text_keeps_its_line(self):
        for line in (1, 2, 7, 6001):
            self.assertEqual(NoText(line).line, line)
            self.assertIs(type(NoText(line).line), int)
            self.assertEqual(NoText(line=line).line, line)

    def test_lines_of_two_objects_stay_apart(self):
        first = NoText(1)
        second = NoText(2)
        self.assertEqual((first.line, second.line), (1, 2))

    def test_raised_they_are_taken_by_their_own_name_and_by_lay_error(self):
        for refusal in REFUSALS:
            for taken in (refusal, LayError, ValueError):
                with self.assertRaises(taken) as caught:
                    raise refusal(5) if refusal is NoText else refusal("words")
                self.assertIs(type(caught.exception), refusal)

    def test_line_is_kept_when_raised(self):
        with self.assertRaises(NoText) as caught:
            raise NoText(12)
        self.assertEqual(caught.exception.line, 12)


if __name__ == "__main__":
    unittest.main()
