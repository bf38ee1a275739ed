"""Symmetric polynomials in two variables: tuples of t + 1 rows of t + 1 numbers."""

from sortes.poly import trimmed, value


def length_on_tape(t):
    """Return how many numbers of a tape one symmetric polynomial of the degree t needs."""
    return (t + 1) * (t + 2) // 2


def from_tape(p, t, numbers):
    """Return the symmetric polynomial of the degree t that is read off the beginning of a tape."""
    table = [[0] * (t + 1) for _ in range(t + 1)]
    at = 0
    for j in range(t + 1):
        for k in range(j, t + 1):
            # Behind the end of a tape there are only zeros.
            c = numbers[at] % p if at < len(numbers) else 0
            table[j][k] = c
            table[k][j] = c
            at += 1
    return tuple([tuple(line) for line in table])


def row(p, f, i):
    """Return the row of f for the number i: the polynomial in y that f becomes when x is i."""
    return trimmed(p, [value(p, column, i) for column in zip(*f)])


def value_at(p, f, x, y):
    """Return the value of f at x and y."""
    return value(p, row(p, f, x), y)
