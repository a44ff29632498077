"""What several test files share: ordinary cases and the document's words done the long way."""

import itertools

MANY = 10 ** 12

# Rows with the width that goes with them: none, one, several, up to six rows, small and great numbers.
SYSTEMS = (
    ((), 1),
    ((), 4),
    (((0,),), 1),
    (((1, -1),), 2),
    (((2, -3),), 2),
    (((3, 5, -7),), 3),
    (((1, 1, -1, -1),), 4),
    (((-1, 2, 0, 1), (1, -1, -1, 0)), 4),
    (((1, -1, 0, 0), (0, 1, -1, 0), (0, 0, 1, -1)), 4),
    (((MANY, -MANY, 0), (-MANY, 0, MANY)), 3),
    (((MANY, 1 - MANY, -1),), 3),
    (((1, -1, 0, 0, 0, 0, 0, 0), (0, 1, -1, 0, 0, 0, 0, 0), (0, 0, 1, -1, 0, 0, 0, 0),
      (0, 0, 0, 0, 1, -1, 0, 0), (0, 0, 0, 0, 0, 1, -1, 0), (0, 0, 0, 0, 0, 0, 2, -1)), 8),
)


def box(width, top):
    """All vectors of that width with numbers from 0 to top, rising."""
    return tuple(itertools.product(range(top + 1), repeat=width))


def small_vectors(width):
    """Vectors enough of that width to try a system at, not too many."""
    tops = {1: 12, 2: 8, 3: 5, 4: 3}
    return box(width, tops.get(width, 1))


def long_sums(rows, one):
    """Each row's sum at the vector, added up number by number."""
    told = []
    for row in rows:
        total = 0
        for j in range(len(one)):
            total += row[j] * one[j]
        told.append(total)
    return told


def long_answer(rows, one):
    """Whether all sums are 0."""
    return long_sums(rows, one) == [0] * len(rows)


def long_pull(rows, one, j):
    """The sum, over all rows, of the row's sum at one times the row's number at place j."""
    totals = long_sums(rows, one)
    told = 0
    for i in range(len(rows)):
        told += totals[i] * rows[i][j]
    return told


def long_below(one, other):
    """Whether one is greater nowhere."""
    for j in range(len(one)):
        if one[j] > other[j]:
            return False
    return True


def together(width, some):
    """The vectors' sum, place by place."""
    return tuple([sum([one[j] for one in some]) for j in range(width)])


def small_answers(rows, width):
    """The answers among the small vectors."""
    return tuple([one for one in small_vectors(width) if long_answer(rows, one)])


def stray_kinds(value):
    """The kinds within a told value that are not tuples, texts, whole numbers, True, False and None."""
    if type(value) is tuple:
        return [kind for part in value for kind in stray_kinds(part)]
    return [] if type(value) in (int, bool, str, type(None)) else [type(value)]


def is_vector(value, width):
    """Whether it is a tuple of so many whole numbers from 0, none of them a truth."""
    return type(value) is tuple and len(value) == width and all(type(part) is int and part >= 0 for part in value)


def capped_box(caps):
    """All vectors within caps without None, rising."""
    return tuple(itertools.product(*[range(cap + 1) for cap in caps]))


def long_within(caps, one):
    """Whether no number is above its cap."""
    for cap, number in zip(caps, one):
        if cap is not None and number > cap:
            return False
    return True


def units(width):
    """All units of that width."""
    return [tuple([1 if k == j else 0 for k in range(width)]) for j in range(width)]


def long_steps(rows, caps, one):
    """The vectors within the caps that come of one by one of its falls."""
    told = []
    for j, unit in enumerate(units(len(caps))):
        more = together(len(caps), (one, unit))
        if long_pull(rows, one, j) < 0 and long_within(caps, more):
            told.append(more)
    return told


def long_levels(rows, caps, most):
    """The levels of the walk, each a rising tuple, by point [10]'s words; at most so many of them."""
    level = sorted([one for one in units(len(caps)) if long_within(caps, one)])
    met = []
    levels = []
    while level and len(levels) < most:
        levels.append(tuple(level))
        met.extend([one for one in level if long_answer(rows, one)])
        behind = {more for one in level if not long_answer(rows, one) for more in long_steps(rows, caps, one)}
        level = sorted([one for one in behind if not any(long_below(answer, one) for answer in met)])
    return levels


def least_among(some):
    """The vectors, rising, that have no other one of them below them."""
    return tuple(sorted([one for one in some if not any(other != one and long_below(other, one) for other in some)]))


def long_least(rows, caps):
    """The least answers within caps without None, by going through all vectors within them."""
    return least_among([one for one in capped_box(caps) if any(one) and long_answer(rows, one)])


# Systems with the numbers up to which all vectors are gone through: all free least answers lie among these.
BOXES = (
    ((), (2,)),
    ((), (2, 1, 2)),
    (((0, 0),), (2, 2)),
    (((0, 0, 0), (0, 0, 0)), (2, 2, 1)),
    (((1,),), (5,)),
    (((1, -1),), (4, 4)),
    (((2, -3),), (6, 6)),
    (((3, -5), (-6, 10)), (7, 7)),
    (((1, 2),), (4, 4)),
    (((1, 1, -2),), (3, 3, 3)),
    (((3, 5, -7),), (7, 7, 5)),
    (((0, 2, -3),), (2, 4, 4)),
    (((1, -2, 0), (0, 1, -3)), (7, 4, 2)),
    (((1, -1, 0), (0, 1, -1), (-1, 0, 1)), (3, 3, 3)),
    (((1, -1, 0), (0, 1, -1), (1, 1, 1)), (3, 3, 3)),
    (((1, 1, -1, -1),), (3, 3, 3, 3)),
    (((2, 3, -1, -2),), (3, 3, 4, 4)),
    (((-1, 2, 0, 1), (1, -1, -1, 0)), (5, 3, 3, 3)),
    (((1, 2, -1, -2), (1, -1, 1, -1)), (4, 4, 4, 4)),
    (((MANY, -MANY, 0), (-MANY, 0, MANY)), (3, 3, 3)),
    (((2, -1, 0, 0, 0), (0, 2, -1, 0, 0), (0, 0, 1, -2, 0), (0, 0, 0, 1, -1)), (2, 3, 5, 3, 3)),
    (((1, -1, 1, -1, 1, -1, 1, -1),), (1,) * 8),
)


def long_lays(told, one):
    """All lays of one in told ones, rising, by going through all counts that could be."""
    ranges = [range(min([b // a for a, b in zip(part, one) if a > 0]) + 1) for part in told]
    found = []
    for counts in itertools.product(*ranges):
        parts = [part for part, many in zip(told, counts) for again in range(many)]
        if together(len(one), parts) == one:
            found.append(counts)
    return tuple(found)


# Told ones, unlike and none of them nought, rising or not, and of several widths.
PARTS = (
    (),
    ((1,),),
    ((2,), (3,)),
    ((5,), (2,), (3,), (1,)),
    ((4,), (6,)),
    ((1, 0), (0, 1)),
    ((1, 0), (0, 1), (1, 1), (2, 1)),
    ((2, 1), (1, 2), (3, 3)),
    ((0, 2), (2, 0), (1, 1)),
    ((0, 0, 1), (0, 1, 0), (1, 0, 0), (1, 1, 1)),
    ((0, 2, 1), (1, 1, 1), (2, 0, 1)),
    ((1, 0, 1, 0), (0, 1, 0, 1), (1, 0, 0, 1), (0, 1, 1, 0)),
)

# Rows, sides, and the numbers up to which all vectors are gone through: all least answers lie among these.
SIDED = (
    (((1, 1),), (3,), (4, 4)),
    (((1, 1),), (-3,), (4, 4)),
    (((2, -3),), (1,), (5, 5)),
    (((2, -3),), (-1,), (5, 5)),
    (((2, -3),), (7,), (6, 5)),
    (((2, -4),), (1,), (4, 4)),
    (((2, -4),), (-6,), (4, 4)),
    (((1, -1, 0), (0, 1, -1)), (1, 2), (5, 5, 3)),
    (((1, -1, 0), (0, 1, -1)), (-1, 2), (4, 4, 3)),
    (((3, 5, -7),), (2,), (7, 7, 5)),
    (((1, 1, -2),), (3,), (5, 5, 3)),
    (((1, 2, 3),), (6,), (6, 3, 2)),
    (((0, 0),), (0,), (2, 2)),
    (((0, 0),), (1,), (2, 2)),
    (((1, 2, 0), (0, 0, 1)), (4, 2), (4, 3, 3)),
    (((1, 1, -1, -1),), (2,), (3, 3, 3, 3)),
    (((MANY, -MANY),), (2 * MANY,), (4, 4)),
    (((MANY, MANY),), (MANY,), (2, 2)),
    (((MANY, MANY),), (MANY - 1,), (2, 2)),
    (((5,),), (10,), (4,)),
    (((5,),), (11,), (4,)),
    (((5,),), (-10,), (4,)),
)


def to_sides(rows, sides, tops):
    """The vectors up to tops whose sums are the sides."""
    return [one for one in capped_box(tops) if long_sums(rows, one) == list(sides)]
