"""What values are, of which nothing is known but that they are nested tuples, strings, integers and None."""


def is_integer(value):
    """Return whether a value is an integer, which True and False are not."""
    return isinstance(value, int) and not isinstance(value, bool)


def is_between(value, low, high):
    """Return whether a value is an integer from `low` to `high`."""
    return is_integer(value) and low <= value <= high


def is_tuple(value, least, most):
    """Return whether a value is a tuple that has from `least` to `most` entries."""
    return isinstance(value, tuple) and least <= len(value) <= most


def are_pairs(value, least, most):
    """Return whether a value is a tuple of pairs, from `least` to `most` of them."""
    return is_tuple(value, least, most) and all([is_tuple(pair, 2, 2) for pair in value])
