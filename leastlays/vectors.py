"""Vectors: tuples of whole numbers from 0, and how they stand to one another."""


def below(one, other):
    """Whether no number of one is greater than that of other at its place."""
    return all([a <= b for a, b in zip(one, other)])


def plus(one, other):
    """The sum of two vectors, place by place."""
    return tuple([a + b for a, b in zip(one, other)])


def minus(one, other):
    """What is left of one without other, which is below it."""
    return tuple([a - b for a, b in zip(one, other)])


def times(many, one):
    """The vector so many times."""
    return tuple([many * a for a in one])


def size(one):
    """The sum of the vector's numbers."""
    return sum(one)


def nought(width):
    """The vector of that width with 0 at each place."""
    return (0,) * width


def unit(width, j):
    """The vector of that width with 1 at place j, else 0."""
    return tuple([1 if k == j else 0 for k in range(width)])


def least_of(some):
    """The rising tuple of those of some below which no unlike one of them is."""
    found = []
    # A vector below an unlike one sorts ahead of it, so only those kept already can be below the one at hand.
    for one in sorted(set(some)):
        if not above_any(found, one):
            found.append(one)
    return tuple(found)


def above_any(some, one):
    """Whether one of some is below one."""
    for other in some:
        if below(other, one):
            return True
    return False
