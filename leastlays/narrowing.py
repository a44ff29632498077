"""Systems row by row: the least answers that a further row leaves."""

from leastlays.caps import free
from leastlays.finding import least
from leastlays.lays import together
from leastlays.stepping import first_steps
from leastlays.sums import row_sum
from leastlays.vectors import least_of


def narrowed(told, row, most):
    """(found, counts): the least sums of told ones that the row takes, and of each the first least counts.

    TooMany as least.
    """
    totals = tuple([row_sum(row, one) for one in told])
    first = {}
    # They rise, so of those that stand for the same vector the first one is kept.
    for counts in least((totals,), free(len(told)), most)[0]:
        first.setdefault(together(told, counts, len(row)), counts)
    found = least_of(tuple(first))
    return (found, tuple([first[one] for one in found]))


def by_rows(rows, width, most):
    """The units, and behind each row the least answers of the rows so far; TooMany as narrowed."""
    stages = [first_steps(free(width))]
    for row in rows:
        stages.append(narrowed(stages[-1], row, most)[0])
    return tuple(stages)
