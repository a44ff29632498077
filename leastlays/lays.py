"""Lays: counts of told ones that come to a vector together."""

from leastlays.errors import NoLay
from leastlays.kinds import is_vector
from leastlays.laying import Laying
from leastlays.vectors import minus, nought, plus, size, times


def together(told, counts, width):
    """The told ones, of that width, each times its count, as one vector."""
    whole = nought(width)
    for one, many in zip(told, counts):
        if many > 0:
            whole = plus(whole, times(many, one))
    return whole


def is_lay(told, one, counts):
    """Whether counts, which may be anything, are a lay of one in told."""
    return is_vector(counts, len(told)) and together(told, counts, len(one)) == one


def often(one, rest):
    """How many times one, which isn't nought, stays below rest."""
    return min([there // here for here, there in zip(one, rest) if here > 0])


def laid(told, one):
    """The lay that takes each told one, in order, as often as it stays below what is left; NoLay where some is left."""
    rest = one
    counts = []
    for part in told:
        many = often(part, rest)
        rest = minus(rest, times(many, part))
        counts.append(many)
    if any(rest):
        raise NoLay("something is left that isn't laid")
    return tuple(counts)


def lays(told, one, most):
    """The rising tuple of all lays of one in told; TooMany where there are more than most."""
    laying = Laying(told)
    laying.meet(tuple(range(len(told))), one, nought(len(told)), most)
    return tuple(sorted(laying.met))


def least_sum(laying, loose, one):
    """The least sum of counts of a lay of one in the loose parts, None where there is no lay."""
    fewer = laying.reach(loose, one, size(one))
    found = fewer
    while fewer is not None:
        found = fewer
        fewer = laying.reach(loose, one, found - 1)
    return found


def fewest(told, one):
    """Of the lays whose counts have the least sum the first as they rise; NoLay where there is none."""
    laying = Laying(told)
    loose = tuple(range(len(told)))
    budget = least_sum(laying, loose, one)
    if budget is None:
        raise NoLay("the vector has no lay")
    rest = one
    counts = []
    for k in loose:
        # Each is taken as seldom as the ones behind it can still make up for, without a vector more.
        many = 0
        while laying.reach(loose[k + 1:], rest, budget - many) is None:
            rest = minus(rest, told[k])
            many += 1
        budget -= many
        counts.append(many)
    return tuple(counts)
