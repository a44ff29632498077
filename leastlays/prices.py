"""Prices: what a vector costs, and which one costs least."""

from leastlays.sums import row_sum


def cost(prices, one):
    """The sum of the vector's numbers, each times its price."""
    return row_sum(prices, one)


def cheapest(told, prices):
    """(cost, one) of the told one that costs least, the first as they rise of several; None where none is told."""
    return min([(cost(prices, one), one) for one in told], default=None)
