"""From numbers to outcomes (points 57 to 59)."""

from sortes.lots import size, unrank
from sortes.shares import share


def needed(p, e):
    """Return how many numbers one attempt takes."""
    return _attempt(p, size(e))[0]


def drawn(p, e, attempts, numbers):
    """Return what the numbers draw: `("drawn", k, outcome, h)`, or `("void",)` if no attempt is good."""
    total = size(e)
    g, _, good = _attempt(p, total)
    for h in range(attempts):
        x = 0
        for number in reversed(numbers[h * g:h * g + g]):
            x = x * p + number
        if x < good:
            k = x % total
            return ("drawn", k, unrank(e, k), h)
    return ("void",)


def counts(p, e, attempts, o):
    """Return how many tuples of numbers lead to the outcome o."""
    many, total = share(e, o)
    _, every, good = _attempt(p, total)
    # The sum of point 59, by one attempt more in each step.
    ways = 0
    power_of_every = 1
    for _ in range(attempts):
        ways = power_of_every + (every - good) * ways
        power_of_every *= every
    return every // max(1, total) * many * ways


def void_count(p, e, attempts):
    """Return how many tuples of numbers lead to no outcome."""
    _, every, good = _attempt(p, size(e))
    total = 1
    for _ in range(attempts):
        total *= every - good
    return total


def _attempt(p, total):
    """Return how many numbers one attempt takes, how many tuples of them there are, and how many of these are good."""
    g = 1
    every = p
    while every < total:
        g += 1
        every *= p
    # Beyond the limits there are lots of the size 0.
    return g, every, every // max(1, total) * total
