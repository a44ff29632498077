"""Sides: answers whose sums come to told numbers."""

from leastlays.caps import free
from leastlays.errors import NoLay
from leastlays.finding import least
from leastlays.kinds import are_vectors
from leastlays.lays import laid
from leastlays.looking import shows
from leastlays.vectors import below, minus


def sided(rows, sides):
    """Each row with its side, turned about, as one number more."""
    return tuple([row + (-side,) for row, side in zip(rows, sides)])


def sided_caps(width):
    """Caps for the sided rows: the side's unknown is at most 1."""
    return free(width) + (1,)


def ending(some, last):
    """The vectors whose last number is that, without it."""
    return tuple([one[:-1] for one in some if one[-1] == last])


def beyond(rows, sides, width, most):
    """(told, base, paper): the least answers to the sides, those of the rows and the walk; TooMany as least."""
    walk = least(sided(rows, sides), sided_caps(width), most)
    return (ending(walk[0], 1), ending(walk[0], 0), walk[1])


def are_rising(value, width):
    """Whether it is a rising tuple of vectors of that width."""
    return are_vectors(value, width) and list(value) == sorted(set(value))


def shows_beyond(rows, sides, width, told, base, paper):
    """Whether the looker takes told and base, with that paper; the three may be anything."""
    if not are_rising(told, width) or not are_rising(base, width):
        return False
    both = sorted([one + (1,) for one in told] + [one + (0,) for one in base])
    return shows(sided(rows, sides), sided_caps(width), tuple(both), paper)


def laid_or_none(base, one):
    """What laid tells, None where it refuses."""
    try:
        return laid(base, one)
    except NoLay:
        return None


def laid_beyond(told, base, one):
    """(k, counts): the first of told below one whose rest is laid in base, and that lay; NoLay where there is none."""
    for k, start in enumerate(told):
        if below(start, one):
            counts = laid_or_none(base, minus(one, start))
            if counts is not None:
                return (k, counts)
    raise NoLay("no told one is below with a rest that is laid")
