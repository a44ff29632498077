"""Point [2] for all functions, and the interface: modules, names and arguments."""

import copy
import importlib
import inspect
import unittest

from leastlays.desk import Desk
from leastlays.errors import NoAnswer, NoLay, NoLine, NoText, TooMany
from tests.helper import MANY, stray_kinds

ROWS = ((2, -3, 0), (0, 1, -2))
ANSWER = (6, 4, 2)

INTERFACE = {
    "vectors": {
        "below": ("one", "other"), "plus": ("one", "other"), "minus": ("one", "other"), "times": ("many", "one"),
        "size": ("one",), "nought": ("width",), "unit": ("width", "j"), "least_of": ("some",),
        "above_any": ("some", "one"),
    },
    "sums": {
        "sums": ("rows", "one"), "is_answer": ("rows", "one"), "pull": ("rows", "one", "j"),
        "falls": ("rows", "one"),
    },
    "ways": {"way": ("rows", "one"), "pieces": ("rows", "one")},
    "caps": {"free": ("width",), "within": ("caps", "one")},
    "finding": {"least": ("rows", "caps", "most")},
    "looking": {"shows": ("rows", "caps", "told", "paper")},
    "lays": {
        "is_lay": ("told", "one", "counts"), "laid": ("told", "one"), "lays": ("told", "one", "most"),
        "fewest": ("told", "one"),
    },
    "answering": {"answers": ("told", "caps", "most")},
    "sides": {
        "sided": ("rows", "sides"), "beyond": ("rows", "sides", "width", "most"),
        "shows_beyond": ("rows", "sides", "width", "told", "base", "paper"),
        "laid_beyond": ("told", "base", "one"),
    },
    "narrowing": {"narrowed": ("told", "row", "most"), "by_rows": ("rows", "width", "most")},
    "joining": {
        "beside": ("one", "width", "other", "more"), "dropped": ("told", "j"), "turned": ("told", "order"),
    },
    "prices": {"cost": ("prices", "one"), "cheapest": ("told", "prices")},
    "reading": {"read_system": ("text",), "read_paper": ("text",)},
    "showing": {"show_system": ("system",), "show_paper": ("told", "paper")},
}

# Module, class, what it is made of, and its methods with what each takes.
CLASSES = (
    ("finding", "Finder", ("rows", "caps"), {"step": (), "level": (), "told": (), "paper": (), "ended": ()}),
    ("desk", "Desk", ("text",), {"say": ("line",)}),
)

# The walk of ROWS without caps, level by level.
PAPER = (
    (0, 0, 1), (0, 1, 0), (1, 0, 0),
    (0, 1, 1), (1, 1, 0),
    (1, 1, 1), (2, 1, 0),
    (2, 1, 1), (2, 2, 0),
    (2, 2, 1), (3, 2, 0),
    (3, 2, 1),
)
FREE = (None, None, None)

# The walk of the row (1, -1) with the side 1: (1, 0, 1) and (1, 1, 0) are answers.
BEYOND = ((0, 0, 1), (0, 1, 0), (1, 0, 0), (1, 0, 1), (1, 1, 0))

TEXT = "of x y\nsum 2 x = 3 y + 1\ncap y 4\nprice x 5"
SYSTEM = (("x", "y"), ((2, -3),), (1,), (None, 4), (5, 0))

# Module, function, what is handed in, what is told.
CALLS = (
    ("vectors", "below", ((1, 2), (1, 3)), True),
    ("vectors", "below", ((1, 4), (1, 3)), False),
    ("vectors", "plus", ((1, 2), (MANY, 3)), (MANY + 1, 5)),
    ("vectors", "minus", ((1, 4), (1, 3)), (0, 1)),
    ("vectors", "times", (2, (1, 3)), (2, 6)),
    ("vectors", "size", ((1, 3),), 4),
    ("vectors", "nought", (3,), (0, 0, 0)),
    ("vectors", "unit", (3, 1), (0, 1, 0)),
    ("vectors", "least_of", (((2, 1), (1, 2), (2, 2), (1, 2)),), ((1, 2), (2, 1))),
    ("vectors", "above_any", (((2, 1), (1, 2)), (1, 1)), False),
    ("vectors", "above_any", (((2, 1), (1, 2)), (1, 2)), True),
    ("sums", "sums", (ROWS, (1, 1, 1)), (-1, -1)),
    ("sums", "is_answer", (ROWS, ANSWER), True),
    ("sums", "is_answer", (ROWS, (6, 4, 3)), False),
    ("sums", "pull", (ROWS, (1, 1, 1), 0), -2),
    ("sums", "falls", (ROWS, (0, 0, 1)), (1,)),
    ("ways", "way", (ROWS, (0, 0, 0)), ()),
    # By hand: the sums on the way are (2, 0), (-1, 1), (1, 1), (-2, 2), (0, 2) and (0, 0).
    ("ways", "way", (ROWS, (3, 2, 1)), (0, 1, 0, 1, 0, 2)),
    ("ways", "pieces", (ROWS, ANSWER), ((3, 2, 1), (3, 2, 1))),
    ("caps", "free", (3,), FREE),
    ("caps", "within", ((1, None), (1, MANY)), True),
    ("caps", "within", ((1, None), (2, 0)), False),
    ("finding", "least", (ROWS, FREE, 12), (((3, 2, 1),), PAPER)),
    ("finding", "least", (ROWS, (None, 0, 1), 2000), ((), ((0, 0, 1), (1, 0, 0)))),
    ("looking", "shows", (ROWS, FREE, ((3, 2, 1),), PAPER), True),
    ("looking", "shows", (ROWS, FREE, (ANSWER,), PAPER), False),
    ("looking", "shows", (ROWS, FREE, [[3, 2, 1]], {"paper": [1]}), False),
    ("lays", "is_lay", (((3, 2, 1),), ANSWER, (2,)), True),
    ("lays", "is_lay", (((3, 2, 1),), ANSWER, (3,)), False),
    ("lays", "is_lay", (((3, 2, 1),), ANSWER, [2, [2]]), False),
    ("lays", "laid", (((3, 2), (1, 0), (0, 1)), (7, 7)), (2, 1, 3)),
    ("lays", "lays", (((3, 2), (1, 0), (0, 1)), (3, 2), 2), ((0, 3, 2), (1, 0, 0))),
    ("lays", "fewest", (((3, 2), (1, 0), (0, 1)), (7, 7)), (2, 1, 3)),
    ("answering", "answers", (((3, 2),), (7, 7), 3), ((0, 0), (3, 2), (6, 4))),
    ("sides", "sided", (ROWS, (5, -7)), ((2, -3, 0, -5), (0, 1, -2, 7))),
    ("sides", "beyond", (((1, -1),), (1,), 2, 5), (((1, 0),), ((1, 1),), BEYOND)),
    ("sides", "shows_beyond", (((1, -1),), (1,), 2, ((1, 0),), ((1, 1),), BEYOND), True),
    ("sides", "shows_beyond", (((1, -1),), (1,), 2, ((1, 0),), (), BEYOND), False),
    ("sides", "shows_beyond", (((1, -1),), (1,), 2, [[1, 0]], {"base": [1]}, [BEYOND]), False),
    ("sides", "laid_beyond", (((1, 0), (0, 1)), ((1, 1),), (2, 3)), (1, (2,))),
    ("narrowing", "narrowed", (((0, 1), (1, 0)), (2, -3), 6), (((3, 2),), ((2, 3),))),
    ("narrowing", "by_rows", (((2, -3),), 2, 6), (((0, 1), (1, 0)), ((3, 2),))),
    ("joining", "beside", (((3, 2),), 2, ((4,),), 1), ((0, 0, 4), (3, 2, 0))),
    ("joining", "dropped", (((3, 0), (0, 2)), 1), ((3,),)),
    ("joining", "turned", (((1, 2, 3),), (1, 2, 0)), ((2, 3, 1),)),
    ("prices", "cost", ((2, MANY), (3, 4)), 4 * MANY + 6),
    ("prices", "cheapest", (((2, 0), (1, 1), (0, 3)), (1, 1)), (2, (1, 1))),
    ("prices", "cheapest", ((), (1, 1)), None),
    ("reading", "read_system", (TEXT,), SYSTEM),
    ("reading", "read_paper", ("least 3 2\nstep 0 1",), (((3, 2),), ((0, 1),))),
    ("reading", "read_paper", ("",), ((), ())),
    ("showing", "show_system", (SYSTEM,), TEXT),
    ("showing", "show_paper", (((3, 2),), ((0, 1),)), "least 3 2\nstep 0 1"),
    ("showing", "show_paper", ((), ()), ""),
)

# Module, function, what is handed in, what it is refused with.
REFUSED = (
    ("ways", "way", (ROWS, (1, 1, 1)), NoAnswer),
    ("ways", "pieces", (ROWS, (1, 1, 1)), NoAnswer),
    ("finding", "least", (ROWS, FREE, 11), TooMany),
    ("lays", "laid", (((3, 2), (1, 0)), (7, 7)), NoLay),
    ("lays", "lays", (((3, 2), (1, 0), (0, 1)), (3, 2), 1), TooMany),
    ("lays", "fewest", (((3, 2), (1, 0)), (7, 7)), NoLay),
    ("answering", "answers", (((3, 2),), (7, 7), 2), TooMany),
    ("sides", "beyond", (((1, -1),), (1,), 2, 4), TooMany),
    ("sides", "laid_beyond", (((1, 0),), ((1, 1),), (2, 3)), NoLay),
    ("narrowing", "narrowed", (((0, 1), (1, 0)), (2, -3), 5), TooMany),
    ("narrowing", "by_rows", (((2, -3),), 2, 5), TooMany),
    ("reading", "read_system", (TEXT + "\n",), NoText),
    ("reading", "read_paper", ("step 3 2\nleast 0 1",), NoText),
    ("desk", "Desk", (TEXT + "\ncap y 4",), NoText),
)

# What is said to a desk of TEXT, and its answer, None where it is refused with NoLine.
SAID = (
    ("least 2000", "3 2"), ("beyond 2000", "2 1 | 3 2"), ("cheapest 2000", "10: 2 1"), ("rows 2000", "2 1"),
    ("way 3 2", "x y x y x"), ("lay 2000 6 4", "2 * 3 2"), ("least 0", "too many"), ("way 1 1", "no answer"),
    ("least 2001", None), ("", None), (None, None), (["least 3"], None),
)


def the_function(module, name):
    return getattr(importlib.import_module("leastlays." + module), name)


class Interface(unittest.TestCase):
    def test_names_and_arguments(self):
        for module, names in INTERFACE.items():
            for name, arguments in names.items():
                told = inspect.signature(the_function(module, name)).parameters
                self.assertEqual(tuple(told), arguments, name)

    def test_classes_and_methods(self):
        for module, name, takes, methods in CLASSES:
            the_class = the_function(module, name)
            self.assertEqual(tuple(inspect.signature(the_class).parameters), takes, name)
            for method, arguments in methods.items():
                told = inspect.signature(getattr(the_class, method)).parameters
                self.assertEqual(tuple(told), ("self",) + arguments, method)

    def test_each_function_is_called_here(self):
        called = {(module, name) for module, name, handed, told in CALLS}
        self.assertEqual(called, {(module, name) for module, names in INTERFACE.items() for name in names})


class ForAll(unittest.TestCase):
    def test_told(self):
        for module, name, handed, told in CALLS:
            answer = the_function(module, name)(*handed)
            self.assertEqual(answer, told, name)
            self.assertIs(type(answer), type(told), name)

    def test_kinds_told(self):
        for module, name, handed, told in CALLS:
            self.assertEqual(stray_kinds(the_function(module, name)(*handed)), [], name)

    def test_truths_only_where_a_whether_is_told(self):
        for module, name, handed, told in CALLS:
            answer = the_function(module, name)(*handed)
            if type(told) is not bool:
                self.assertNotRegex(repr(answer), "True|False")

    def test_nothing_handed_in_is_changed(self):
        for module, name, handed, told in CALLS:
            kept = copy.deepcopy(handed)
            shown = repr(handed)
            the_function(module, name)(*handed)
            self.assertEqual(handed, kept, name)
            self.assertEqual(repr(handed), shown, name)

    def test_asked_again_the_same_is_told(self):
        for again in range(3):
            for module, name, handed, told in CALLS + CALLS[::-1]:
                self.assertEqual(the_function(module, name)(*handed), told, name)

    def test_refused_again_and_again(self):
        for module, name, handed, refusal in REFUSED * 3:
            shown = repr(handed)
            with self.assertRaises(refusal) as caught:
                the_function(module, name)(*handed)
            self.assertIs(type(caught.exception), refusal)
            self.assertEqual(repr(handed), shown)

    def test_told_as_ever_behind_refusals(self):
        for module, name, handed, told in CALLS:
            for other_module, other, other_handed, refusal in REFUSED:
                if (other_module, other) == (module, name):
                    with self.assertRaises(refusal):
                        the_function(module, name)(*other_handed)
                    self.assertEqual(the_function(module, name)(*handed), told, name)

    def test_a_desk_asked_again(self):
        desk = Desk(TEXT)
        for line, told in SAID + SAID[::-1] + SAID:
            shown = repr(line)
            if told is None:
                with self.assertRaises(NoLine) as caught:
                    desk.say(line)
                self.assertIs(type(caught.exception), NoLine)
            else:
                self.assertEqual(desk.say(line), told)
                self.assertIs(type(desk.say(line)), str)
            self.assertEqual(repr(line), shown)


if __name__ == "__main__":
    unittest.main()
