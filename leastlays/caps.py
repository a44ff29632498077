"""Caps: for each unknown the number that it may not be above, or None."""


def free(width):
    """Caps with None alone."""
    return (None,) * width


def within(caps, one):
    """Whether no number of the vector is above its cap."""
    return all([cap is None or number <= cap for cap, number in zip(caps, one)])
