"""Least answers of systems side by side, without an unknown, with the unknowns in another order."""

from leastlays.vectors import nought


def risen(some):
    """The rising tuple of the vectors, each once."""
    return tuple(sorted(set(some)))


def beside(one, width, other, more):
    """The vectors of one with more noughts behind and those of other with width noughts ahead."""
    return risen([part + nought(more) for part in one] + [nought(width) + part for part in other])


def dropped(told, j):
    """The told ones that have 0 at place j, without that place."""
    return risen([one[:j] + one[j + 1:] for one in told if one[j] == 0])


def placed(one, order):
    """The vector with, at each place, what one has at the place that order names there."""
    return tuple([one[j] for j in order])


def turned(told, order):
    """The told ones, each placed by the order."""
    return risen([placed(one, order) for one in told])
