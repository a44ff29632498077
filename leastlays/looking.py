"""The looker: takes a paper only where the told ones are just the least answers."""

from leastlays.caps import within
from leastlays.kinds import are_vectors
from leastlays.stepping import first_steps, steps
from leastlays.sums import is_answer
from leastlays.vectors import above_any, least_of


def all_fit(caps, some):
    """Whether the vectors are within the caps and none of them is nought."""
    return all([any(one) and within(caps, one) for one in some])


def are_least(rows, told):
    """Whether the vectors are answers, rising, and none of them is below another."""
    return least_of(told) == told and all([is_answer(rows, one) for one in told])


def is_met(told, listed, one):
    """Whether one is on the paper or has one told below it."""
    return one in listed or above_any(told, one)


def goes_on(rows, caps, told, listed, one):
    """Whether one of the paper has one told below it, or else is no answer and each of its steps is met."""
    if above_any(told, one):
        return True
    if is_answer(rows, one):
        return False
    return all([is_met(told, listed, more) for j, more in steps(rows, caps, one)])


def shows(rows, caps, told, paper):
    """Whether the paper shows that told, both of them anything, are just the least answers within the caps."""
    # What isn't made of vectors may not even be compared or looked up, so that is asked ahead of all else.
    if not are_vectors(told, len(caps)) or not are_vectors(paper, len(caps)):
        return False
    if not all_fit(caps, told + paper) or not are_least(rows, told):
        return False
    listed = dict([(one, True) for one in paper])
    if not all([is_met(told, listed, one) for one in first_steps(caps)]):
        return False
    return all([goes_on(rows, caps, told, listed, one) for one in listed])
