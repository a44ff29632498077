"""The steps of the walk: from nought to the units, and from a vector by its falls."""

from leastlays.caps import within
from leastlays.sums import falls
from leastlays.vectors import unit


def first_steps(caps):
    """The rising tuple of the units within the caps."""
    units = [unit(len(caps), j) for j in range(len(caps))]
    return tuple(sorted([one for one in units if within(caps, one)]))


def raised(one, j):
    """The vector and the unit of place j."""
    return one[:j] + (one[j] + 1,) + one[j + 1:]


def steps(rows, caps, one):
    """Pairs of a fall of one, which is within the caps, and the vector that comes by it, where that is within them.

    Of an answer there are none, as it has no falls.
    """
    places = [j for j in falls(rows, one) if caps[j] is None or one[j] < caps[j]]
    return [(j, raised(one, j)) for j in places]
