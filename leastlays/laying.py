"""The search for lays, by the place that the fewest told ones can still fill: so dead ends are met early."""

from leastlays.errors import TooMany
from leastlays.vectors import below, minus, size


def rests(one, rest):
    """What is left of rest with one, which isn't nought, taken never, once and so on as often as it stays below."""
    left = [rest]
    while below(one, left[-1]):
        left.append(minus(left[-1], one))
    return left


def without(numbers, k):
    """The tuple of the numbers but k."""
    return tuple([number for number in numbers if number != k])


def is_short(parts, rest, budget):
    """Whether so many of the parts, each as often as you like, stay short of rest at some place or in size."""
    if size(rest) > budget * max([size(part) for part in parts], default=0):
        return True
    for j, number in enumerate(rest):
        if number > budget * max([part[j] for part in parts], default=0):
            return True
    return False


class Laying:
    """Lays in told ones, the parts; a part is known by its number from 0, and loose while its count isn't settled."""

    def __init__(self, told):
        self.parts = told
        self.lost = {}
        self.met = []

    def fitting(self, loose, rest):
        """The loose parts that are below rest."""
        return tuple([k for k in loose if below(self.parts[k], rest)])

    def filling(self, loose, j):
        """The loose parts that aren't 0 at place j."""
        return [k for k in loose if self.parts[k][j] > 0]

    def next_part(self, loose, rest):
        """A loose part at the place, of those where something is left, that the fewest of them fill."""
        places = [j for j in range(len(rest)) if rest[j] > 0]
        # Where none fills a place, rest is short there: that is asked ahead.
        return min([self.filling(loose, j) for j in places], key=len)[0]

    def is_lost(self, loose, rest, budget):
        """Whether rest is known to have no lay of at most budget vectors in the loose parts."""
        if self.lost.get((loose, rest), -1) >= budget:
            return True
        return is_short([self.parts[k] for k in loose], rest, budget)

    def reach(self, loose, rest, budget):
        """How many vectors some lay of rest in the loose parts has, at most budget; None where there is no such lay."""
        if budget < 0:
            return None
        if not any(rest):
            return 0
        loose = self.fitting(loose, rest)
        if self.is_lost(loose, rest, budget):
            return None
        k = self.next_part(loose, rest)
        # From often to never: so a lay of few vectors is likely met early.
        for many, left in reversed(list(enumerate(rests(self.parts[k], rest)))):
            found = self.reach(without(loose, k), left, budget - many)
            if found is not None:
                return many + found
        self.lost[(loose, rest)] = budget
        return None

    def meet(self, loose, rest, counts, most):
        """Meets all lays that have these counts at the parts that aren't loose, rest being left for those that are."""
        if not any(rest):
            self.met.append(counts)
            if len(self.met) > most:
                raise TooMany("there are more lays than that")
            return
        loose = self.fitting(loose, rest)
        # No lay has more vectors than its size.
        if self.is_lost(loose, rest, size(rest)):
            return
        ahead = len(self.met)
        k = self.next_part(loose, rest)
        for many, left in enumerate(rests(self.parts[k], rest)):
            self.meet(without(loose, k), left, counts[:k] + (many,) + counts[k + 1:], most)
        if len(self.met) == ahead:
            self.lost[(loose, rest)] = size(rest)
