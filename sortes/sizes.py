"""Lots with their sizes (points 51 and 52)."""

from math import comb, lcm

from sortes.errors import LimitError

GREATEST_SIZE = 10 ** 12


class Measured:
    """A lot with its size.

    `parts` are the measured lots in it; where a number chooses one of them, `weights` are theirs and `stride` is
    the least common multiple of the sizes of those that can be chosen.
    """

    def __init__(self, lot, total, weights, parts, stride):
        self.lot = lot
        self.total = total
        self.weights = weights
        self.parts = parts
        self.stride = stride


def measured(e):
    """Return a lot with its size. It raises LimitError if this, or the size of a lot in it, is too great."""
    kind = e[0]
    if kind == "among":
        parts = [measured(inner) for _, inner in e[1]]
        return _chosen_among(e, [weight for weight, _ in e[1]], parts)
    if kind == "prizes":
        return _measured_prizes(e, {})
    if kind == "both":
        parts = [measured(inner) for inner in e[1]]
        return Measured(e, _product([part.total for part in parts]), [], parts, 1)
    return Measured(e, _size_by_itself(e), [], [], 1)


def names_of(e):
    """Return how many names a lot of the kinds order, draw, set and again takes, and out of which."""
    if e[0] == "order":
        return len(e[1]), e[1]
    return e[1], e[2]


def bases_of(e):
    """Return out of how many names each name of an outcome of the kinds order, draw and again is taken."""
    s, names = names_of(e)
    if e[0] == "again":
        return [len(names)] * s
    return [len(names) - at for at in range(s)]


def sets_of(many, s):
    """Return how many sets of s there are out of so many."""
    return comb(many, max(0, s))


def _size_by_itself(e):
    """Return the size of a lot without lots in it."""
    if e[0] == "sure":
        return 1
    if e[0] == "seats":
        return _checked(sum([votes for _, votes in e[2]]))
    if e[0] == "set":
        s, names = names_of(e)
        return _checked(sets_of(len(names), s))
    return _product(bases_of(e))


def _chosen_among(e, weights, parts):
    """Return the measured lot that chooses one of the parts by their weights."""
    stride = 1
    for weight, part in zip(weights, parts):
        if weight > 0:
            stride = _checked(lcm(stride, part.total))
    return Measured(e, _checked(sum(weights) * stride), weights, parts, stride)


def _measured_prizes(e, known):
    """Return a lot of prizes with its size; `known` has those lots in it that are measured already."""
    _, s, pairs = e
    if s < 1:
        return Measured(e, 1, [], [], 1)
    # The winners so far may have come in any order, what is left for the others is the same.
    if pairs not in known:
        parts = [_measured_prizes(("prizes", s - 1, pairs[:at] + pairs[at + 1:]), known) for at in range(len(pairs))]
        known[pairs] = _chosen_among(e, [tickets for _, tickets in pairs], parts)
    return known[pairs]


def _product(numbers):
    """Return the product of the numbers. It stops as soon as the product is too great."""
    total = 1
    for number in numbers:
        total = _checked(total * number)
    return total


def _checked(total):
    """Return a size, or raise LimitError if it is too great."""
    if total > GREATEST_SIZE:
        raise LimitError("the size of a lot is above 10 ** 12")
    return total
