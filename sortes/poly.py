"""Polynomials modulo a prime p: tuples of coefficients, the constant one first, without zeros at the end."""

from sortes.field import inverse


def trimmed(p, coefficients):
    """Return the polynomial with these integers modulo p."""
    numbers = [c % p for c in coefficients]
    while numbers and numbers[-1] == 0:
        numbers.pop()
    return tuple(numbers)


def value(p, f, x):
    """Return the value of the polynomial f at x."""
    total = 0
    for c in reversed(f):
        total = (total * x + c) % p
    return total


def plus(p, f, g):
    """Return the sum of two polynomials."""
    sums = [0] * max(len(f), len(g))
    for k, c in enumerate(f):
        sums[k] += c
    for k, c in enumerate(g):
        sums[k] += c
    return trimmed(p, sums)


def times(p, f, g):
    """Return the product of two polynomials."""
    sums = [0] * (len(f) + len(g))
    for j, a in enumerate(f):
        for k, b in enumerate(g):
            sums[j + k] += a * b
    return trimmed(p, sums)


def interpolate(p, pairs):
    """Return the polynomial of a degree less than the number of pairs that has each y as its value at x."""
    found = ()
    # `blank` is 0 at each x so far, so what is added of it leaves the values there as they are.
    blank = (1,)
    for x, y in pairs:
        gap = y - value(p, found, x)
        factor = gap * inverse(p, value(p, blank, x))
        found = plus(p, found, times(p, trimmed(p, (factor,)), blank))
        blank = times(p, blank, trimmed(p, (-x, 1)))
    return found
