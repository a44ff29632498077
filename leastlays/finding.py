"""The walk by levels, and the least answers that it meets."""

from leastlays.errors import TooMany
from leastlays.stepping import first_steps, steps
from leastlays.sums import is_answer
from leastlays.vectors import below


def is_barred(found, one, j):
    """Whether one of the answers found is below one, which came by the unit of place j."""
    for answer in found:
        # None of them was below the vector that one came of, so only one that is full at place j can be below it.
        if answer[j] == one[j] and below(answer, one):
            return True
    return False


def next_level(rows, caps, found, level, room):
    """The rising list of the next level's vectors; where room is a number, cut short once there are more than that."""
    met = {}
    for one in level:
        for j, more in steps(rows, caps, one):
            if more not in met and not is_barred(found, more, j):
                met[more] = True
        if room is not None and len(met) > room:
            break
    return sorted(met)


class Finder:
    """A walk of rows within caps."""

    def __init__(self, rows, caps):
        self.rows = rows
        self.caps = caps
        self.begun = False
        self.here = []
        self.found = []
        self.walked = []

    def step(self):
        """Goes to the next level and tells how many vectors it has."""
        return self.step_within(None)

    def step_within(self, room):
        """Steps, but need not go on once the level has more vectors than room; behind such a level it can't go on."""
        if self.begun:
            self.here = next_level(self.rows, self.caps, self.found, self.here, room)
        else:
            self.here = list(first_steps(self.caps))
            self.begun = True
        self.found.extend([one for one in self.here if is_answer(self.rows, one)])
        self.walked.extend(self.here)
        return len(self.here)

    def level(self):
        """The rising tuple of the vectors of the level gone to last."""
        return tuple(self.here)

    def told(self):
        """The rising tuple of the answers met so far."""
        return tuple(sorted(self.found))

    def paper(self):
        """The tuple of all vectors met so far, level by level."""
        return tuple(self.walked)

    def ended(self):
        """Whether a step has told 0."""
        return self.begun and len(self.here) == 0


def least(rows, caps, most):
    """The least answers within the caps and the walk's vectors; TooMany where these are more than most."""
    finder = Finder(rows, caps)
    room = most
    while not finder.ended():
        # With many unknowns a level can be far greater than most: it is not worth walking to its end.
        room = room - finder.step_within(room)
        if room < 0:
            raise TooMany("the walk has more vectors than that")
    return (finder.told(), finder.paper())
