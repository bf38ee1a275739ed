"""Point 7: symmetric polynomials in two variables, and point 4 for them."""

import inspect
import unittest

from sortes import pairs
from sortes.pairs import from_tape, row, value_at
from tests.samples import PRIMES, Stream, plain_trim, plain_value


def plain_at(p, f, x, y):
    return sum(c * x ** j * y ** k for j, line in enumerate(f) for k, c in enumerate(line)) % p


def samples(p, seed):
    """Symmetric polynomials of each degree up to 3, also some that are zero or nearly so."""
    stream = Stream(seed + p)
    for t in range(4):
        many = (t + 1) * (t + 2) // 2
        for numbers in ((), (1,), (0,) * (many - 1) + (1,), (0, p - 1)):
            yield t, from_tape(p, t, numbers)
        for _ in range(8):
            yield t, from_tape(p, t, stream.numbers(p, many))


class FromTapeTest(unittest.TestCase):
    def test_known_answers(self):
        self.assertEqual(from_tape(11, 0, (7,)), ((7,),))
        self.assertEqual(from_tape(11, 1, (1, 2, 3)), ((1, 2), (2, 3)))
        self.assertEqual(from_tape(11, 2, (1, 2, 3, 4, 5, 6)), ((1, 2, 3), (2, 4, 5), (3, 5, 6)))
        self.assertEqual(from_tape(13, 3, tuple(range(1, 11))),
                         ((1, 2, 3, 4), (2, 5, 6, 7), (3, 6, 8, 9), (4, 7, 9, 10)))

    def test_longer_tape(self):
        for p in PRIMES:
            stream = Stream(p)
            for t in range(3):
                tape = stream.numbers(p, (t + 1) * (t + 2) // 2)
                for more in ((0,), (1,), stream.numbers(p, 20)):
                    self.assertEqual(from_tape(p, t, tape + more), from_tape(p, t, tape))

    def test_shorter_tape(self):
        self.assertEqual(from_tape(11, 2, (1, 2, 3, 4)), ((1, 2, 3), (2, 4, 0), (3, 0, 0)))
        self.assertEqual(from_tape(11, 2, (5,)), ((5, 0, 0), (0, 0, 0), (0, 0, 0)))
        for p in PRIMES:
            stream = Stream(100 + p)
            for t in range(3):
                many = (t + 1) * (t + 2) // 2
                tape = stream.numbers(p, many)
                for length in range(many):
                    filled = tape[:length] + (0,) * (many - length)
                    self.assertEqual(from_tape(p, t, tape[:length]), from_tape(p, t, filled))

    def test_empty_tape(self):
        for p in PRIMES:
            for t in range(4):
                self.assertEqual(from_tape(p, t, ()), ((0,) * (t + 1),) * (t + 1))

    def test_form(self):
        for p in PRIMES:
            for t, f in samples(p, 200):
                self.assertIs(type(f), tuple)
                self.assertEqual([len(line) for line in f], [t + 1] * (t + 1))
                for j, line in enumerate(f):
                    self.assertIs(type(line), tuple)
                    for k, c in enumerate(line):
                        self.assertIs(type(c), int)
                        self.assertIn(c, range(p))
                        self.assertEqual(c, f[k][j])


class RowTest(unittest.TestCase):
    def test_known_answers(self):
        f = ((1, 2), (2, 3))
        self.assertEqual([row(11, f, i) for i in range(5)], [(1, 2), (3, 5), (5, 8), (7,), (9, 3)])
        self.assertEqual(row(11, ((1, 2, 3), (2, 4, 5), (3, 5, 6)), 2), (6, 8, 4))
        self.assertEqual(row(11, ((4,),), 9), (4,))

    def test_without_zeros_at_the_end(self):
        self.assertEqual(row(11, ((0, 0), (0, 0)), 3), ())
        self.assertEqual(row(11, ((0,),), 3), ())
        self.assertEqual(row(11, ((10, 0), (0, 10)), 0), (10,))
        self.assertEqual(row(11, ((0, 0), (0, 10)), 0), ())
        for p in PRIMES:
            for _, f in samples(p, 300):
                for i in range(8):
                    found = row(p, f, i)
                    self.assertIs(type(found), tuple)
                    self.assertEqual(found, plain_trim(found))

    def test_it_is_what_the_polynomial_becomes(self):
        for p in PRIMES:
            for t, f in samples(p, 400):
                for i in range(8):
                    coefficients = [sum(f[j][k] * i ** j for j in range(t + 1)) % p for k in range(t + 1)]
                    self.assertEqual(row(p, f, i), plain_trim(coefficients))


class ValueAtTest(unittest.TestCase):
    def test_known_answers(self):
        f = ((1, 2), (2, 3))
        self.assertEqual([value_at(11, f, x, y) for x, y in ((0, 0), (1, 2), (2, 1), (2, 3), (10, 0))],
                         [1, 2, 2, 7, 10])
        self.assertEqual(value_at(11, ((4,),), 3, 8), 4)

    def test_sum_of_the_terms(self):
        for p in PRIMES:
            for _, f in samples(p, 500):
                for x in range(8):
                    for y in range(8):
                        found = value_at(p, f, x, y)
                        self.assertIs(type(found), int)
                        self.assertEqual(found, plain_at(p, f, x, y), (p, f, x, y))

    def test_rows_agree_and_cross(self):
        for p in PRIMES:
            for _, f in samples(p, 600):
                for j in range(8):
                    for k in range(8):
                        told = value_at(p, f, j, k)
                        self.assertEqual(told, plain_value(p, row(p, f, j), k))
                        self.assertEqual(told, plain_value(p, row(p, f, k), j))
                        self.assertEqual(told, value_at(p, f, k, j))

    def test_beyond_the_limits(self):
        f = from_tape(11, 1, (12, -1, 25))
        self.assertEqual(value_at(11, f, 12, -1), plain_at(11, f, 1, 10))
        self.assertEqual(row(11, f, 12), row(11, f, 1))


class InterfaceTest(unittest.TestCase):
    def test_interface(self):
        for function, names in ((from_tape, ["p", "t", "numbers"]), (row, ["p", "f", "i"]),
                                (value_at, ["p", "f", "x", "y"])):
            self.assertEqual(function.__module__, pairs.__name__)
            self.assertEqual(list(inspect.signature(function).parameters), names)


if __name__ == "__main__":
    unittest.main()
