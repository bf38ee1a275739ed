"""Inputs and plain reckoning that several tests share. Nothing here uses the program."""

PRIMES = (11, 13, 17, 31, 101)


class Stream:
    """Numbers that look random and are the same in every run and on every Python."""

    def __init__(self, seed):
        self.state = seed

    def below(self, bound):
        self.state = (self.state * 6364136223846793005 + 1442695040888963407) % 2 ** 64
        return (self.state >> 33) % bound

    def numbers(self, p, many):
        return tuple(self.below(p) for _ in range(many))

    def polynomial(self, p, many):
        """A polynomial with exactly this many coefficients."""
        if many == 0:
            return ()
        return self.numbers(p, many - 1) + (1 + self.below(p - 1),)

    def shuffled(self, items):
        left = list(items)
        return tuple(left.pop(self.below(len(left))) for _ in range(len(left)))


def coefficient(f, k):
    return f[k] if k < len(f) else 0


def plain_value(p, f, x):
    return sum(c * x ** k for k, c in enumerate(f)) % p


def plain_trim(numbers):
    """Cut off the zeros at the end of numbers that are reduced already."""
    last = max([k for k, c in enumerate(numbers) if c != 0], default=-1)
    return tuple(numbers[:last + 1])


def plain_plus(p, f, g):
    return plain_trim([(coefficient(f, k) + coefficient(g, k)) % p for k in range(max(len(f), len(g)))])


def plain_times(p, f, g):
    """The product, each coefficient worked out by itself."""
    many = len(f) + len(g)
    return plain_trim([sum(coefficient(f, j) * coefficient(g, k - j) for j in range(k + 1)) % p
                       for k in range(many)])
