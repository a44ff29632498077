"""What the tests of texts share: systems, the document's words by patterns, and texts with one sign changed."""

import re

from tests.helper import MANY

NAME = "[a-z]{1,8}"
FROM_NOUGHT = "(?:0|[1-9][0-9]*)"
FROM_ONE = "[1-9][0-9]*"
TERM = f"(?:(?:{FROM_ONE} )?{NAME}|{FROM_ONE})"
TERMS = rf"(?:0|{TERM}(?: \+ {TERM})*)"

# Texts as show_system writes them, with the systems that they write.
SHOWN = (
    ("of x", (("x",), (), (), (None,), (0,))),
    ("of x\nsum 0 = 0", (("x",), ((0,),), (0,), (None,), (0,))),
    ("of x\nsum x = 0", (("x",), ((1,),), (0,), (None,), (0,))),
    ("of x\nsum 0 = x", (("x",), ((-1,),), (0,), (None,), (0,))),
    ("of x\nsum 0 = 1", (("x",), ((0,),), (1,), (None,), (0,))),
    ("of x\nsum 1 = 0", (("x",), ((0,),), (-1,), (None,), (0,))),
    ("of x\nsum 2 x + 1 = 0", (("x",), ((2,),), (-1,), (None,), (0,))),
    ("of x\nsum 3 = x", (("x",), ((-1,),), (-3,), (None,), (0,))),
    ("of x\nsum 0 = x + 3", (("x",), ((-1,),), (3,), (None,), (0,))),
    ("of x y\nsum 0 = x + y + 5", (("x", "y"), ((-1, -1),), (5,), (None,) * 2, (0,) * 2)),
    ("of of\nsum of = 3\ncap of 4\nprice of 5", (("of",), ((1,),), (3,), (4,), (5,))),
    ("of x y\ncap x 0", (("x", "y"), (), (), (0, None), (0, 0))),
    ("of x y\nprice y 1", (("x", "y"), (), (), (None, None), (0, 1))),
    ("of x y\ncap y 1\nprice x 1", (("x", "y"), (), (), (None, 1), (1, 0))),
    ("of y x\ncap y 0\ncap x 7\nprice y 5\nprice x 6", (("y", "x"), (), (), (0, 7), (5, 6))),
    ("of x y z\nsum x + y = 2 z", (("x", "y", "z"), ((1, 1, -2),), (0,), (None,) * 3, (0,) * 3)),
    ("of x y z\nsum x + 10 z = 11 y + 12\nsum 3 y + 4 = x",
     (("x", "y", "z"), ((1, -11, 10), (-1, 3, 0)), (12, -4), (None,) * 3, (0,) * 3)),
    (f"of x y\nsum {MANY} x = {MANY} y + {MANY}\ncap x {MANY}\nprice y {MANY}",
     (("x", "y"), ((MANY, -MANY),), (MANY,), (MANY, None), (0, MANY))),
    (f"of x y\nsum {MANY - 1} y + {MANY} = {MANY} x",
     (("x", "y"), ((-MANY, MANY - 1),), (-MANY,), (None, None), (0, 0))),
    ("of sum of cap price least\nsum sum + 2 of = cap + 3 price + 4\ncap sum 1\ncap cap 2\nprice of 3\nprice price 4",
     (("sum", "of", "cap", "price", "least"), ((1, 2, -1, -3, 0),), (4,), (1, None, 2, None, None), (0, 3, 0, 4, 0))),
    ("of abcdefgh ijklmnop qrstuvwx yz a z aa\nsum abcdefgh + z = ijklmnop + 2 aa\ncap aa 9",
     (("abcdefgh", "ijklmnop", "qrstuvwx", "yz", "a", "z", "aa"), ((1, -1, 0, 0, 0, 1, -2),), (0,),
      (None,) * 6 + (9,), (0,) * 7)),
    ("of a b\nsum a = b\nsum a = b\nsum b = a\nsum 0 = 0\nsum 2 a = 2 b\nsum a + b = 5",
     (("a", "b"), ((1, -1), (1, -1), (-1, 1), (0, 0), (2, -2), (1, 1)), (0, 0, 0, 0, 0, 5), (None,) * 2, (0,) * 2)),
)

# Of other form than show_system writes, with what is read.
OTHER_FORM = (
    ("of x\nprice x 0", (("x",), (), (), (None,), (0,))),
    ("of x y\nprice y 2\nprice x 1\ncap y 0\ncap x 3", (("x", "y"), (), (), (3, 0), (1, 2))),
    ("of x y\nsum 1 x = 1 y", (("x", "y"), ((1, -1),), (0,), (None,) * 2, (0,) * 2)),
    ("of x y\nsum x + 2 x + y = x + 3 y + 3", (("x", "y"), ((2, -2),), (3,), (None,) * 2, (0,) * 2)),
    ("of x y\nsum y + x + y + x = 0", (("x", "y"), ((2, 2),), (0,), (None,) * 2, (0,) * 2)),
    ("of x y\nsum x = x", (("x", "y"), ((0, 0),), (0,), (None,) * 2, (0,) * 2)),
    ("of x y\nsum 2 x + y = x + y + x", (("x", "y"), ((0, 0),), (0,), (None,) * 2, (0,) * 2)),
    ("of x\nsum 5 + x = 2 + 1", (("x",), ((1,),), (-2,), (None,), (0,))),
    ("of x\nsum 1 + 2 + 3 = x + 10 + 1", (("x",), ((-1,),), (5,), (None,), (0,))),
    ("of x\nsum 7 = 7", (("x",), ((0,),), (0,), (None,), (0,))),
    ("of x\nsum 7 = 9 + x", (("x",), ((-1,),), (2,), (None,), (0,))),
    ("of x\nsum 3 + 2 x + 4 = 0", (("x",), ((2,),), (-7,), (None,), (0,))),
    ("of sum of\nsum of = sum + of + sum\nprice of 1\ncap sum 2",
     (("sum", "of"), ((-2, 0),), (0,), (2, None), (0, 1))),
    ("of cap price\ncap price 1\nprice cap 2\ncap cap 3\nprice price 4", (("cap", "price"), (), (), (3, 1), (2, 4))),
    (f"of x\nsum {MANY} x + {MANY} x = {MANY} x", (("x",), ((MANY,),), (0,), (None,), (0,))),
    (f"of x\nsum {MANY} x = {MANY} x + {MANY} x", (("x",), ((-MANY,),), (0,), (None,), (0,))),
    (f"of x\nsum {MANY} x + 2 x = 2 x", (("x",), ((MANY,),), (0,), (None,), (0,))),
    (f"of x\nsum {MANY - 1} x + x = 0", (("x",), ((MANY,),), (0,), (None,), (0,))),
    (f"of x\nsum 0 = {MANY - 1} x + x", (("x",), ((-MANY,),), (0,), (None,), (0,))),
    (f"of x\nsum {MANY} + {MANY} = x + {MANY}", (("x",), ((-1,),), (-MANY,), (None,), (0,))),
    (f"of x\nsum {MANY} = x + {MANY} + {MANY}", (("x",), ((-1,),), (MANY,), (None,), (0,))),
    (f"of x\nsum x = {MANY - 1} + 1", (("x",), ((1,),), (MANY,), (None,), (0,))),
    (f"of x\nsum 1 + {MANY - 1} = x", (("x",), ((-1,),), (-MANY,), (None,), (0,))),
    (f"of x\nsum {MANY} x + {MANY} = {MANY} x + {MANY}", (("x",), ((0,),), (0,), (None,), (0,))),
)

# Bases whose signs and lines are changed, one at a time.
BASES = (
    "of x y\nsum x + 2 y = 3\ncap x 4\nprice y 5",
    "of x\nsum 0 = x\ncap x 0\nprice x 10",
    "of sum cap\nsum 10 + sum = cap + sum\nsum 0 = 0",
    f"of a z\nsum {MANY} a = {MANY - 1} z",
)

LEAST = "least 0 2 1\nleast 1 1 1\nleast 2 0 1"

# Texts as show_paper writes them, with the told ones and papers that they write.
PAPERS = (
    ("", ((), ())),
    ("least 1", (((1,),), ())),
    ("least 0", (((0,),), ())),
    ("step 0", ((), ((0,),))),
    ("step 1 2", ((), ((1, 2),))),
    ("least 1 2\nstep 3 4", (((1, 2),), ((3, 4),))),
    (LEAST, (((0, 2, 1), (1, 1, 1), (2, 0, 1)), ())),
    (LEAST + "\nstep 9 9 9\nstep 0 0 10\nstep 9 9 9",
     (((0, 2, 1), (1, 1, 1), (2, 0, 1)), ((9, 9, 9), (0, 0, 10), (9, 9, 9)))),
    ("least 2\nleast 1\nleast 2", (((2,), (1,), (2,)), ())),
    ("least 1 2 3 4 5 6 7 8\nstep 8 7 6 5 4 3 2 1", (((1, 2, 3, 4, 5, 6, 7, 8),), ((8, 7, 6, 5, 4, 3, 2, 1),))),
    (f"least {MANY}\nstep {MANY + 1}", (((MANY,),), ((MANY + 1,),))),
    ("least " + "9" * 60 + " 0", (((10 ** 60 - 1, 0),), ())),
    ("step 1" + "0" * 59, ((), ((10 ** 59,),))),
    ("least 12345678901234\nstep 1", (((12345678901234,),), ((1,),))),
)


def bounded(word):
    """The number that figures write, None where it is above 10 ** 12."""
    return int(word) if len(word) < 14 and int(word) <= MANY else None


def long_terms(names, text):
    """What stands in terms, as a dict of names, the number alone under the empty one; None where it is not right."""
    found = dict.fromkeys(names + ("",), 0)
    for term in text.split(" + ") if text != "0" else ():
        name = re.search("[a-z]*$", term).group()
        number = bounded(re.match("[0-9]*", term).group() or "1")
        if name not in found or number is None:
            return None
        found[name] += number
    return found


def long_sum(names, line):
    """(row, side) of a sum line, None where it is none."""
    match = re.fullmatch(f"sum ({TERMS}) = ({TERMS})", line)
    left, right = [long_terms(names, part) for part in match.groups()] if match else (None, None)
    if left is None or right is None:
        return None
    row = tuple([left[name] - right[name] for name in names])
    side = right[""] - left[""]
    return (row, side) if all(-MANY <= number <= MANY for number in row + (side,)) else None


def long_read_system(text):
    """The system that a text writes, or the number of the first line that isn't one."""
    lines = text.split("\n")
    names = tuple(lines[0].split(" ")[1:])
    if not re.fullmatch(f"of {NAME}(?: {NAME}){{0,6}}", lines[0]) or len(set(names)) < len(names):
        return 1
    rows, kept = [], {}
    for k in range(1, len(lines)):
        row = long_sum(names, lines[k])
        match = re.fullmatch(f"(cap|price) ({NAME}) ({FROM_NOUGHT})", lines[k])
        if row is not None and len(rows) < 6:
            rows.append(row)
        elif match and match[2] in names and match[1] + match[2] not in kept and bounded(match[3]) is not None:
            # The two words have unlike first letters, so put together they stay apart.
            kept[match[1] + match[2]] = bounded(match[3])
        else:
            return k + 1
    return (names, tuple([row for row, side in rows]), tuple([side for row, side in rows]),
            tuple([kept.get("cap" + name) for name in names]), tuple([kept.get("price" + name, 0) for name in names]))


def long_read_paper(text):
    """(told, paper) that a text writes, or the number of the first line that isn't one."""
    told, paper = [], []
    for k, line in enumerate(text.split("\n") if text else []):
        match = re.fullmatch("(least|step)((?: (?:0|[1-9][0-9]{0,59})){1,8})", line)
        if not match or (match[1] == "least" and paper):
            return k + 1
        one = tuple([int(word) for word in match[2].split()])
        if any(len(other) != len(one) for other in told + paper):
            return k + 1
        (told if match[1] == "least" else paper).append(one)
    return (tuple(told), tuple(paper))


def changed(text, signs):
    """The text without each of its signs in turn, with each sign put in at each place, or for the one there."""
    told = set()
    for k in range(len(text) + 1):
        told.add(text[:k] + text[k + 1:])
        for sign in signs:
            told.add(text[:k] + sign + text[k:])
            told.add(text[:k] + sign + text[k + 1:])
    return sorted(told)


def lines_changed(text):
    """The text without each of its lines, with each twice, with each put at each other place, with an empty one."""
    lines = text.split("\n")
    told = []
    for k in range(len(lines) + 1):
        told.append(lines[:k] + lines[k + 1:])
        told.append(lines[:k] + [""] + lines[k:])
        for line in lines:
            told.append(lines[:k] + [line] + lines[k:])
    return ["\n".join(some) for some in told]
