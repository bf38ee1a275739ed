"""Numbers modulo a prime p."""


def inverse(p, a):
    """Return the number whose product with a, which is not 0, is 1."""
    # By Fermat's little theorem the product of p - 1 factors a is 1.
    return power(p, a, p - 2)


def power(p, a, k):
    """Return the product of k factors a, k from 0."""
    # Squaring keeps the number of steps small when k is large.
    total = 1
    square = a % p
    left = k
    while left > 0:
        if left % 2 == 1:
            total = total * square % p
        square = square * square % p
        left = left // 2
    return total
