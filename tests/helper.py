"""What several test files share: ordinary cases and the document's words done the long way."""

import itertools

MANY = 10 ** 12

# Rows with the width that goes with them: none, one, several, up to six rows, small and great numbers.
SYSTEMS = (
    ((), 1),
    ((), 4),
    (((0,),), 1),
    (((1, -1),), 2),
    (((2, -3),), 2),
    (((3, 5, -7),), 3),
    (((1, 1, -1, -1),), 4),
    (((-1, 2, 0, 1), (1, -1, -1, 0)), 4),
    (((1, -1, 0, 0), (0, 1, -1, 0), (0, 0, 1, -1)), 4),
    (((MANY, -MANY, 0), (-MANY, 0, MANY)), 3),
    (((MANY, 1 - MANY, -1),), 3),
    (((1, -1, 0, 0, 0, 0, 0, 0), (0, 1, -1, 0, 0, 0, 0, 0), (0, 0, 1, -1, 0, 0, 0, 0),
      (0, 0, 0, 0, 1, -1, 0, 0), (0, 0, 0, 0, 0, 1, -1, 0), (0, 0, 0, 0, 0, 0, 2, -1)), 8),
)


def box(width, top):
    """All vectors of that width with numbers from 0 to top, rising."""
    return tuple(itertools.product(range(top + 1), repeat=width))


def small_vectors(width):
    """Vectors enough of that width to try a system at, not too many."""
    tops = {1: 12, 2: 8, 3: 5, 4: 3}
    return box(width, tops.get(width, 1))


def long_sums(rows, one):
    """Each row's sum at the vector, added up number by number."""
    told = []
    for row in rows:
        total = 0
        for j in range(len(one)):
            total += row[j] * one[j]
        told.append(total)
    return told


def long_answer(rows, one):
    """Whether all sums are 0."""
    return long_sums(rows, one) == [0] * len(rows)


def long_pull(rows, one, j):
    """The sum, over all rows, of the row's sum at one times the row's number at place j."""
    totals = long_sums(rows, one)
    told = 0
    for i in range(len(rows)):
        told += totals[i] * rows[i][j]
    return told


def long_below(one, other):
    """Whether one is greater nowhere."""
    for j in range(len(one)):
        if one[j] > other[j]:
            return False
    return True


def together(width, some):
    """The vectors' sum, place by place."""
    return tuple([sum([one[j] for one in some]) for j in range(width)])


def small_answers(rows, width):
    """The answers among the small vectors."""
    return tuple([one for one in small_vectors(width) if long_answer(rows, one)])


def stray_kinds(value):
    """The kinds within a told value that are not tuples, whole numbers, True and False."""
    if type(value) is tuple:
        return [kind for part in value for kind in stray_kinds(part)]
    return [] if type(value) in (int, bool) else [type(value)]


def is_vector(value, width):
    """Whether it is a tuple of so many whole numbers from 0, none of them a truth."""
    return type(value) is tuple and len(value) == width and all(type(part) is int and part >= 0 for part in value)
