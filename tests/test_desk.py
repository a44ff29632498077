"""Point [27], and [3] (h): the desk answers as the functions do."""

import unittest

from leastlays.caps import free
from leastlays.desk import Desk
from leastlays.errors import LayError, NoLine, NoText
from leastlays.finding import least
from leastlays.lays import laid
from leastlays.narrowing import by_rows, narrowed
from leastlays.prices import cheapest
from leastlays.reading import read_system
from leastlays.showing import show_system
from leastlays.sides import beyond, sided
from leastlays.ways import way
from tests.helper import (
    BOXES, MANY, SIDED, capped_box, least_among, long_answer, long_least, long_levels, to_sides, units)
from tests.texts import changed, lines_changed, long_read_system

TEXT = "of x y z\nsum x + y = 2 z + 3\ncap x 1\nprice x 5\nprice y 2"

# By hand: the text, a line and the answer to it.
SAID = (
    (TEXT, "least 2000", "0 2 1; 1 1 1"),
    (TEXT, "beyond 2000", "0 3 0; 1 2 0; 2 1 0; 3 0 0 | 0 2 1; 1 1 1; 2 0 1"),
    (TEXT, "cheapest 2000", "6: 0 3 0"),
    (TEXT, "rows 2000", "3 3"),
    (TEXT, "way 2 2 2", "x z x y z y"),
    (TEXT, "way 2 0 1", "x z x"),
    (TEXT, "way 0 0 0", "-"),
    (TEXT, "way 1 0 0", "no answer"),
    (TEXT, "way 0 3 0", "no answer"),
    (TEXT, "lay 2000 3 5 4", "2 * 0 2 1 + 1 * 1 1 1 + 1 * 2 0 1"),
    (TEXT, "lay 2000 2 2 2", "1 * 0 2 1 + 1 * 2 0 1"),
    (TEXT, "lay 2000 10 0 5", "5 * 2 0 1"),
    (TEXT, "lay 2000 0 0 0", "0"),
    (TEXT, "lay 2000 1 0 0", "no answer"),
    (TEXT, "lay 2000 1000000000000 1000000000000 1000000000000", "500000000000 * 0 2 1 + 500000000000 * 2 0 1"),
    (TEXT, "least 0", "too many"),
    (TEXT, "beyond 0", "too many"),
    (TEXT, "cheapest 0", "too many"),
    (TEXT, "rows 0", "too many"),
    (TEXT, "lay 0 2 0 1", "too many"),
    (TEXT, "lay 0 0 0 0", "too many"),
    (TEXT, "lay 0 1 0 0", "no answer"),
    (TEXT, "way 200 0 100", " ".join(["x z x"] * 100)),
    (TEXT, "way 200 2 101", "too many"),
    (TEXT, "way 202 0 101", "too many"),
    (TEXT, "way 202 0 100", "no answer"),
    (TEXT, "way 1000000000000 1000000000000 1000000000000", "too many"),
    (TEXT, "way 1000000000000 1000000000000 999999999999", "no answer"),
    ("of x", "least 1", "1"),
    ("of x", "least 0", "too many"),
    ("of x", "beyond 2", "0 | 1"),
    ("of x", "beyond 1", "too many"),
    ("of x", "cheapest 2", "0: 0"),
    ("of x", "cheapest 1", "too many"),
    ("of x", "rows 0", "1"),
    ("of x", "way 3", "x x x"),
    ("of x", "way 0", "-"),
    ("of x", "way 300", "x " * 299 + "x"),
    ("of x", "way 301", "too many"),
    ("of x", "lay 1 5", "5 * 1"),
    ("of x", "lay 1 0", "0"),
    ("of x", "lay 1 1000000000000", "1000000000000 * 1"),
    ("of x", "lay 0 5", "too many"),
    ("of x\ncap x 0", "least 0", "-"),
    ("of x\ncap x 0", "beyond 2", "0 | 1"),
    ("of x\ncap x 0", "lay 1 5", "5 * 1"),
    ("of x\ncap x 0", "way 2", "x x"),
    ("of x\ncap x 0", "rows 2000", "1"),
    ("of x\nsum x = 0", "least 2000", "-"),
    ("of x\nsum x = 0", "beyond 2000", "0 | -"),
    ("of x\nsum x = 0", "cheapest 2000", "0: 0"),
    ("of x\nsum x = 0", "rows 2000", "1 0"),
    ("of x\nsum x = 0", "way 0", "-"),
    ("of x\nsum x = 0", "way 1", "no answer"),
    ("of x\nsum x = 0", "lay 2000 0", "0"),
    ("of x\nsum x = 0", "lay 0 0", "too many"),
    ("of x\nsum 2 x = 1", "beyond 2000", "- | -"),
    ("of x\nsum 2 x = 1", "cheapest 2000", "-"),
    ("of x\nsum 2 x = 6\nprice x 7", "cheapest 2000", "21: 3"),
    ("of x\nsum 2 x = 6\nprice x 7\ncap x 1", "beyond 2000", "3 | -"),
    ("of x\nsum 2 x = 6\nprice x 7\ncap x 1", "cheapest 2000", "21: 3"),
    ("of x\nsum 6 = 2 x", "beyond 2000", "3 | -"),
    ("of x\nsum 2 x + 6 = 0", "beyond 2000", "- | -"),
    ("of x y\nsum x = y + 1", "beyond 2000", "1 0 | 1 1"),
    ("of x y\nsum 2 x = 4 y + 1", "beyond 2000", "- | 2 1"),
    ("of x y\nsum 2 x = 4 y + 1", "cheapest 2000", "-"),
    ("of x y\nsum x + y = 2", "cheapest 2000", "0: 0 2"),
    ("of x y\nsum x + y = 2\nprice x 3\nprice y 3", "cheapest 2000", "6: 0 2"),
    ("of x y\nsum x + y = 2\nprice x 3\nprice y 4", "cheapest 2000", "6: 2 0"),
    ("of x y\nsum x = y\nsum y = x", "rows 2000", "2 1 1"),
    ("of x y\nsum x = y\nsum x = 2 y\nsum x = y", "rows 2000", "2 1 0 0"),
    ("of sum least\nsum 2 sum = 3 least", "way 3 2", "sum least sum least sum"),
    ("of sum least\nsum 2 sum = 3 least", "least 2000", "3 2"),
    (f"of x y\nsum x = y\nprice x {MANY}\nprice y {MANY}", "cheapest 2000", "0: 0 0"),
    (f"of x y\nsum x + y = 1\nprice x {MANY}\nprice y {MANY}", "cheapest 2000", f"{MANY}: 0 1"),
    ("of a b c d e f g", "least 7",
     "0 0 0 0 0 0 1; 0 0 0 0 0 1 0; 0 0 0 0 1 0 0; 0 0 0 1 0 0 0; 0 0 1 0 0 0 0; 0 1 0 0 0 0 0; 1 0 0 0 0 0 0"),
    ("of a b c d e f g", "least 6", "too many"),
)

# None of these is a line of a desk of three names.
NO_LINES = (
    "", " ", "\n", "\t", "x", "-", "0", "1", "1 2 3", "help", "quit", "of x", "sum x = 0", "cap x 1", "price x 1",
    "told", "paper", "answers 3", "fewest 3", "laid 3 1 1 1", "Least 3", "LEAST 3", "leas 3", "leastt 3", "lest 3",
    "row 3", "row 1 1 1", "ways 1 1 1", "lays 3 1 1 1", "cheap 3", "beyon 3", "beyond3", "least3", "way111",
    "least", "least ", "beyond", "cheapest", "rows", "way", "way ", "lay", "lay ", "least 3 4", "beyond 3 4",
    "cheapest 3 4", "rows 3 4", "least 3 1 1 1", "least 3 ", " least 3", "least  3", "\tleast 3", "least\t3",
    "least 3\t", "least 3\n", "\nleast 3", "least\n3", "least 3\r", "least 3\nleast 3", "least 3\nbeyond 3",
    "beyond 3\n", "beyond  3", " beyond 3", "beyond 3 ", "cheapest 3\n", "cheapest  3", "cheapest 3 ", "rows 3\n",
    "rows  3", "rows 3 ", "least 03", "least 00", "least 0003", "beyond 03", "cheapest 03", "rows 03", "least -1",
    "least +1", "least -0", "least 1.0", "least 1e3", "least 1_0", "least 0x1", "least x", "least three", "least None",
    "least 2001", "beyond 2001", "cheapest 2001", "rows 2001", "least 9999", "least 10000", "least 1000000000000",
    "least " + "9" * 5000, "least \u0661", "least \u00b2", "least\u00a03", "least \uff13",
    "way 1 1", "way 1", "way 1 1 1 1", "way 1 1 1 1 1", "way 2000 1 1 1", "way 1 1 1 ", " way 1 1 1", "way  1 1 1",
    "way 1  1 1", "way 1 1 1\n", "way\t1 1 1", "way 1 1\n1", "way 01 1 1", "way 1 1 00", "way 1 1 -1", "way 1 1 x",
    "way x y z", "way 1 1 1000000000001", "way 1000000000001 1 1", "way 1 1 9999999999999", "way 1 1 10000000000000",
    "way 1 1 " + "1" * 5000, "way 1, 1, 1", "way (1, 1, 1)", "way 1 1 +1", "way 1 1 1.0", "way 1 1 \u0661",
    "lay 3", "lay 3 1", "lay 3 1 1", "lay 1 1 1", "lay 3 1 1 1 1", "lay 3 1 1 1 ", "lay  3 1 1 1", "lay 3  1 1 1",
    " lay 3 1 1 1", "lay 3 1 1 1\n", "lay\t3 1 1 1", "lay 2001 1 1 1", "lay 1000000000000 1 1 1", "lay 03 1 1 1",
    "lay 3 01 1 1", "lay 3 1 1 00", "lay 3 1 1 1000000000001", "lay 3 1 1 x", "lay x 1 1 1", "lay -3 1 1 1",
    "lay 3 1 -1 1", "lay 3 " + "1" * 5000 + " 1 1", "lay 3 1 1 1; 1 1 1", "least 3;", "least 3%", "%", "least %",
)

NO_TEXTS = (
    None, True, False, 0, 1, 3, -1, 2000, 0.5, float("nan"), 1j, b"", b"least 3", bytearray(b"least 3"), [], (), {},
    ["least 3"], ("least 3",), ("least", 3), ["least", "3"], {"least": 3}, {"least 3"}, frozenset(["least 3"]), set(),
    range(3), iter("least 3"), object(), object, str, len, lambda: "least 3", ..., NotImplemented, 10 ** 5000, Desk,
    ValueError("least 3"),
)

SIGNS = " \n\t\r+-0129axA;.\u00a0\u0661"


def numbered(one):
    """The numbers, each behind a blank."""
    return "".join([" " + str(number) for number in one])


def listed(some):
    """Vectors as the desk writes several."""
    return ";".join([numbered(one) for one in some])[1:] or "-"


def long_line(width, line):
    """Whether the line is one of the desk's, by taking it apart from its end."""
    parts = line.split(" ")
    for word in parts[1:]:
        if not word.isascii() or not word.isdigit() or str(int(word)) != word or int(word) > MANY:
            return False
    wants = {"least": 1, "beyond": 1, "cheapest": 1, "rows": 1, "way": width, "lay": width + 1}
    if wants.get(parts[0]) != len(parts) - 1:
        return False
    return parts[0] == "way" or int(parts[1]) <= 2000


def names_of(width):
    """So many names."""
    return tuple("pqrstuv"[:width])


def systems():
    """Systems with the numbers up to which all vectors are gone through, with and without caps."""
    for rows, sides, tops in SIDED:
        if max([abs(side) for side in sides]) <= MANY:
            for caps in (free(len(tops)), tuple([1] * len(tops)), (None,) * (len(tops) - 1) + (2,)):
                for prices in ((3, 1, 4, 1), (0, 0, 0, 0), (MANY, 0, 1, 2)):
                    yield (names_of(len(tops)), rows, sides, caps, prices[:len(tops)]), tops
    for rows, tops in BOXES:
        if len(tops) < 8:
            yield (names_of(len(tops)), rows, (0,) * len(rows), free(len(tops)), (1,) * len(tops)), tops


def walked(rows, caps):
    """How many vectors the walk has."""
    return sum([len(level) for level in long_levels(rows, caps, 10 ** 6)])


def rows_walked(rows, width):
    """How many vectors the greatest walk of by_rows has, 0 where there is no row."""
    told = tuple(sorted(units(width)))
    most = 0
    for row in rows:
        totals = tuple([sum([a * b for a, b in zip(row, one)]) for one in told])
        most = max(most, walked((totals,), (None,) * len(told)))
        told = narrowed(told, row, 2000)[0]
    return most


class Asking(unittest.TestCase):
    def refused(self, desk, line):
        with self.assertRaises(NoLine) as caught:
            desk.say(line)
        self.assertIs(type(caught.exception), NoLine)
        self.assertIsInstance(caught.exception, LayError)


class Saying(Asking):
    def test_by_hand(self):
        for text, line, told in SAID:
            self.assertEqual(Desk(text).say(line), told, (text, line))
            self.assertIs(type(Desk(text).say(line)), str)

    def test_all_lines_of_one_desk_in_any_order(self):
        for text in {text for text, line, told in SAID}:
            desk = Desk(text)
            lines = [(line, told) for other, line, told in SAID if other == text]
            for line, told in lines + lines[::-1] + lines:
                self.assertEqual(desk.say(line), told)

    def test_most_at_its_edges(self):
        desk = Desk(TEXT)
        for word in ("least", "beyond", "cheapest", "rows"):
            self.assertEqual(desk.say(word + " 0"), "too many")
            self.assertNotEqual(desk.say(word + " 2000"), "too many")
            self.refused(desk, word + " 2001")
        self.assertEqual(desk.say("lay 0 0 2 1"), "too many")
        self.assertEqual(desk.say("lay 2000 0 2 1"), "1 * 0 2 1")
        self.refused(desk, "lay 2001 0 2 1")

    def test_numbers_at_their_edges(self):
        desk = Desk("of x y\nsum x = y")
        self.assertEqual(desk.say(f"way {MANY} {MANY}"), "too many")
        self.assertEqual(desk.say(f"way 0 {MANY}"), "no answer")
        self.assertEqual(desk.say(f"lay 9 {MANY} {MANY}"), f"{MANY} * 1 1")
        for line in (f"way 0 {MANY + 1}", f"way {MANY + 1} {MANY + 1}", f"lay 9 0 {MANY + 1}"):
            self.refused(desk, line)

    def test_sizes_about_three_hundred(self):
        desk = Desk("of x y\nsum x = y")
        for half in range(148, 154):
            told = desk.say(f"way {half} {half}")
            self.assertEqual(told, "x y " * (half - 1) + "x y" if half <= 150 else "too many")
            self.assertEqual(desk.say(f"way {half} {half + 1}"), "no answer")
        # Without rows every vector is an answer, and the way goes by the first place that isn't full.
        free_desk = Desk("of x y")
        self.assertEqual(free_desk.say("way 299 1"), "x " * 299 + "y")
        self.assertEqual(free_desk.say("way 0 300"), "y " * 299 + "y")
        self.assertEqual(free_desk.say("way 300 1"), "too many")
        self.assertEqual(free_desk.say("way 0 301"), "too many")


class AsTheFunctions(unittest.TestCase):
    def test_least(self):
        for system, tops in systems():
            caps = [top if cap is None else min(cap, top) for cap, top in zip(system[3], tops)]
            self.assertEqual(Desk(show_system(system)).say("least 2000"), listed(long_least(system[1], caps)), system)
            self.assertEqual(Desk(show_system(system)).say("least 2000"), listed(least(system[1], system[3], 2000)[0]))

    def test_beyond(self):
        for system, tops in systems():
            ones = least_among(to_sides(system[1], system[2], tops))
            told = listed(ones) + " | " + listed(long_least(system[1], tops))
            self.assertEqual(Desk(show_system(system)).say("beyond 2000"), told, system)

    def test_cheapest(self):
        for system, tops in systems():
            costs = sorted([
                (sum([a * b for a, b in zip(system[4], one)]), one)
                for one in least_among(to_sides(system[1], system[2], tops))])
            told = f"{costs[0][0]}:{numbered(costs[0][1])}" if costs else "-"
            self.assertEqual(Desk(show_system(system)).say("cheapest 2000"), told, system)
            found = cheapest(beyond(system[1], system[2], len(tops), 2000)[0], system[4])
            self.assertEqual(found, costs[0] if costs else None)

    def test_rows(self):
        for system, tops in systems():
            told = " ".join([str(len(stage)) for stage in by_rows(system[1], len(tops), 2000)])
            self.assertEqual(Desk(show_system(system)).say("rows 2000"), told)
            counts = [len(long_least(system[1][:k], tops)) for k in range(len(system[1]) + 1)]
            if len(system[1]) == 1:
                self.assertEqual(told, " ".join([str(count) for count in counts]))

    def test_way_and_lay(self):
        for system, tops in systems():
            desk = Desk(show_system(system))
            told = least(system[1], free(len(tops)), 2000)[0]
            # Of the box a part is enough here: every vector with small numbers.
            for one in capped_box([min(top, 3) for top in tops]):
                ways, lays = self.answers_to(system, told, one)
                self.assertEqual(desk.say("way" + numbered(one)), ways)
                self.assertEqual(desk.say("lay 2000" + numbered(one)), lays)

    def answers_to(self, system, told, one):
        """The answers to the way line and to the lay line of a vector."""
        if not long_answer(system[1], one):
            return "no answer", "no answer"
        if not any(one):
            return "-", "0"
        counts = laid(told, one)
        parts = [f"{many} *{numbered(part)}" for many, part in zip(counts, told) if many]
        return " ".join([system[0][j] for j in way(system[1], one)]), " + ".join(parts)

    def test_too_many_just_where_it_is_due(self):
        for system, tops in systems():
            if system[3] == free(len(tops)) or system[4] == (0,) * len(tops):
                self.check_due(system, len(tops))

    def check_due(self, system, width):
        """Of each line, the least number with which it isn't too many."""
        names, rows, sides, caps, prices = system
        desk = Desk(show_system(system))
        beyond_many = walked(sided(rows, sides), free(width) + (1,))
        nought = " 0" * width
        for word, behind, due in (
            ("least", "", walked(rows, caps)), ("beyond", "", beyond_many), ("cheapest", "", beyond_many),
            ("rows", "", rows_walked(rows, width)), ("lay", nought, walked(rows, free(width))),
        ):
            self.assertNotEqual(desk.say(f"{word} {due}{behind}"), "too many", (system, word))
            for most in range(max(0, due - 3), due):
                self.assertEqual(desk.say(f"{word} {most}{behind}"), "too many", (system, word))

    def test_caps_count_for_least_alone(self):
        for system, tops in systems():
            bare = system[:3] + (free(len(tops)),) + system[4:]
            capped = system[:3] + ((0,) * len(tops),) + system[4:]
            lines = ["beyond 2000", "cheapest 2000", "rows 2000"]
            for one in capped_box([min(top, 1) for top in tops]):
                lines += ["way" + numbered(one), "lay 2000" + numbered(one)]
            for line in lines:
                self.assertEqual(Desk(show_system(capped)).say(line), Desk(show_system(bare)).say(line))
            self.assertEqual(Desk(show_system(capped)).say("least 2000"), "-")

    def test_sides_and_prices_count_for_theirs_alone(self):
        first = Desk("of x y\nsum x = 2 y")
        second = Desk("of x y\nsum x = 2 y + 3\nprice x 4")
        for line in ("least 99", "rows 99", "way 2 1", "way 3 0", "lay 99 4 2", "lay 99 3 0", "lay 3 2 1"):
            self.assertEqual(first.say(line), second.say(line))
        self.assertEqual(first.say("beyond 99"), "0 0 | 2 1")
        self.assertEqual(second.say("beyond 99"), "3 0 | 2 1")
        self.assertEqual(second.say("cheapest 99"), "12: 3 0")


class Refused(Asking):
    def test_lines_that_are_none(self):
        desk = Desk(TEXT)
        for line in NO_LINES:
            self.refused(desk, line)

    def test_things_that_are_no_texts(self):
        desk = Desk(TEXT)
        for thing in NO_TEXTS:
            self.refused(desk, thing)
        ring = []
        ring.append(ring)
        self.refused(desk, ring)

    def test_a_thing_that_tells_nothing_of_itself(self):
        class Mute:
            def __eq__(self, other):
                raise RuntimeError

            def __getattr__(self, name):
                raise RuntimeError

            def __repr__(self):
                raise RuntimeError
            __hash__ = __bool__ = __len__ = __iter__ = __str__ = __repr__

        self.refused(Desk(TEXT), Mute())

    def test_a_right_line_behind_a_refused_one(self):
        lines = [(line, told) for text, line, told in SAID if text == TEXT]
        desk = Desk(TEXT)
        for k, thing in enumerate(NO_LINES + NO_TEXTS):
            self.refused(desk, thing)
            line, told = lines[k % len(lines)]
            self.assertEqual(desk.say(line), told)

    def test_each_sign_changed(self):
        desk = Desk("of x y\nsum x = y")
        for line in ("least 20", "beyond 2000", "cheapest 10", "rows 9", "way 1 10", "lay 20 1 1", f"way {MANY} 0"):
            self.assertIs(long_line(2, line), True)
            for other in changed(line, SIGNS):
                if long_line(2, other):
                    self.assertIs(type(desk.say(other)), str)
                else:
                    self.refused(desk, other)

    def test_so_many_numbers_as_names(self):
        for width in range(1, 8):
            desk = Desk("of " + " ".join(names_of(width)))
            for many in range(12):
                for line in ("way" + " 1" * many, "lay 9" + " 1" * many):
                    if many == width:
                        self.assertIs(type(desk.say(line)), str)
                    else:
                        self.refused(desk, line)

    def test_things_are_not_changed(self):
        desk = Desk(TEXT)
        for thing in ([["least 3"]], {"least": [3]}):
            shown = repr(thing)
            self.refused(desk, thing)
            self.assertEqual(repr(thing), shown)


class Keeping(unittest.TestCase):
    def test_two_desks(self):
        first = Desk("of x y\nsum x = y\ncap x 0\nprice x 1")
        second = Desk("of y x\nsum 2 y = 3 x + 1")
        for again in range(3):
            self.assertEqual(first.say("least 9"), "-")
            self.assertEqual(second.say("least 9"), "3 2")
            self.assertEqual(first.say("beyond 99"), "0 0 | 1 1")
            self.assertEqual(second.say("beyond 99"), "2 1 | 3 2")
            with self.assertRaises(NoLine):
                first.say("least")
            self.assertEqual(second.say("way 3 2"), "y x y x y")
            self.assertEqual(first.say("way 1 1"), "x y")

    def test_two_desks_of_one_text(self):
        first, second = Desk(TEXT), Desk(TEXT)
        for text, line, told in SAID:
            if text == TEXT:
                self.assertEqual((first.say(line), second.say(line)), (told, told))

    def test_a_text_of_other_form(self):
        first = Desk("of x y z\nprice y 2\ncap x 1\nprice x 5\nsum y + 1 x + 2 = 2 z + 5\nprice z 0")
        for text, line, told in SAID:
            if text == TEXT:
                self.assertEqual(first.say(line), told)

    def test_a_text_that_writes_no_system(self):
        for text, line in (
            ("", 1), ("of", 1), ("of x x", 1), ("of x\n", 2), ("of x\nsum y = 0", 2), ("of x\ncap x 1\ncap x 1", 3),
            ("of x" + "\nsum 0 = 0" * 7, 8), ("least 3", 1), (TEXT + "\nof x", 6), (f"of x\ncap x {MANY + 1}", 2),
        ):
            with self.assertRaises(NoText) as caught:
                Desk(text)
            self.assertEqual(caught.exception.line, line)
            self.assertIs(type(caught.exception), NoText)

    def test_refused_as_read_system(self):
        for text in lines_changed(TEXT) + changed(TEXT, " \n0+="):
            told = long_read_system(text)
            if type(told) is int:
                with self.assertRaises(NoText) as caught:
                    Desk(text)
                self.assertEqual(caught.exception.line, told)
            else:
                self.assertEqual(read_system(text), told)
                self.assertEqual(Desk(text).say("least 2000"), listed(least(told[1], told[3], 2000)[0]))


if __name__ == "__main__":
    unittest.main()
