"""Rows: their sums at a vector, and where these pull it."""


def row_sum(row, one):
    """The sum of the row's numbers, each times the vector's at its place."""
    return sum([a * b for a, b in zip(row, one)])


def sums(rows, one):
    """The row's sum at the vector, for each row."""
    return tuple([row_sum(row, one) for row in rows])


def is_answer(rows, one):
    """Whether the vector's sums are all 0."""
    return all([total == 0 for total in sums(rows, one)])


def pull_of(rows, totals, j):
    """The pull at place j of a vector whose sums are totals."""
    return sum([total * row[j] for total, row in zip(totals, rows)])


def pull(rows, one, j):
    """The sum, over all rows, of the row's sum at one times the row's number at place j."""
    return pull_of(rows, sums(rows, one), j)


def falls(rows, one):
    """The rising tuple of all places whose pull is below 0."""
    totals = sums(rows, one)
    return tuple([j for j in range(len(one)) if pull_of(rows, totals, j) < 0])
