"""Decoding: the polynomial behind pairs of which some are wrong."""

from itertools import combinations

from sortes.poly import interpolate, value


def decode(p, pairs, degree, errors):
    """Return the polynomial of at most this degree that all but at most `errors` of the pairs fit, or None."""
    many = len(pairs) - errors
    size = max(0, min(degree + 1, many))
    # At most `errors` pairs are wrong, so among the first size + errors ones there are `size` right ones.
    return _fitting(p, pairs, list(pairs[:size + errors]), size, many)


def _fitting(p, pairs, first, size, many):
    """Return a polynomial through `size` of the first pairs that `many` of all pairs fit, or None."""
    for chosen in combinations(first, size):
        f = interpolate(p, chosen)
        if _count_fitting(p, f, pairs) >= many:
            return f
    return None


def _count_fitting(p, f, pairs):
    """Return how many of the pairs the polynomial f fits."""
    return len([x for x, y in pairs if value(p, f, x) == y])
