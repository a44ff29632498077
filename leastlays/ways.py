"""Ways: how one goes from nought to an answer by units, and the answers met there."""

from leastlays.errors import NoAnswer
from leastlays.sums import falls, is_answer
from leastlays.vectors import minus, nought, plus, unit


def next_place(rows, at, one):
    """The place by whose unit the way to one goes on from the vector at."""
    places = [j for j in range(len(one)) if at[j] < one[j]]
    if not is_answer(rows, at):
        falling = falls(rows, at)
        # Never empty here: below an answer, a vector that is none is less than it at one of its falls.
        places = [j for j in places if j in falling]
    return places[0]


def way(rows, one):
    """The places by whose units one goes from nought to the answer one; NoAnswer where it is none."""
    if not is_answer(rows, one):
        raise NoAnswer("the vector is no answer to the rows")
    at = nought(len(one))
    places = []
    while at != one:
        j = next_place(rows, at, one)
        places.append(j)
        at = plus(at, unit(len(one), j))
    return tuple(places)


def pieces(rows, one):
    """The answers, not nought, that the way to one falls into; NoAnswer where one is none."""
    ahead = nought(len(one))
    at = ahead
    found = []
    for j in way(rows, one):
        at = plus(at, unit(len(one), j))
        if is_answer(rows, at):
            found.append(minus(at, ahead))
            ahead = at
    return tuple(found)
