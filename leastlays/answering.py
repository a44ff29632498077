"""All sums of told ones that are within caps."""

from leastlays.caps import within
from leastlays.errors import TooMany
from leastlays.vectors import nought, plus


def grow(found, one, caps, most):
    """Puts to the sums found, a dict, those with one more of one, once or more often; no more than one beyond most."""
    for start in list(found):
        more = plus(start, one)
        # A sum that is found already is a start of its own, or has been gone on from.
        while len(found) <= most and more not in found and within(caps, more):
            found[more] = True
            more = plus(more, one)


def answers(told, caps, most):
    """The rising tuple of all sums of told ones within the caps; TooMany where there are more than most."""
    found = {nought(len(caps)): True}
    for one in told:
        grow(found, one, caps, most)
    if len(found) > most:
        raise TooMany("there are more answers than that")
    return tuple(sorted(found))
