"""Whether anything at all is a number, a vector or a tuple of vectors."""


def is_number(value):
    """Whether it is a whole number from 0; a truth is none."""
    return isinstance(value, int) and not isinstance(value, bool) and value >= 0


def is_vector(value, width):
    """Whether it is a vector of that width."""
    return isinstance(value, tuple) and len(value) == width and all([is_number(part) for part in value])


def are_vectors(value, width):
    """Whether it is a tuple of vectors of that width."""
    return isinstance(value, tuple) and all([is_vector(part, width) for part in value])
