"""Point 6: decoding."""

import inspect
import itertools
import unittest

from sortes import decoding
from sortes.decoding import decode
from tests.samples import PRIMES, Stream, plain_trim, plain_value


def pairs_of(stream, p, f, many, wrong):
    """Pairs in any order of which just so many do not fit f."""
    xs = stream.shuffled(range(p))[:many]
    bad = stream.shuffled(xs)[:wrong]
    return tuple((x, (plain_value(p, f, x) + (1 + stream.below(p - 1) if x in bad else 0)) % p) for x in xs)


def all_fitting(p, pairs, degree, errors):
    """All polynomials that decoding may return, found by trying each one."""
    found = []
    for numbers in itertools.product(range(p), repeat=degree + 1):
        if sum(plain_value(p, numbers, x) != y for x, y in pairs) <= errors:
            found.append(plain_trim(numbers))
    return found


def bounds(most):
    """All degrees, bounds and numbers of pairs for which decoding is called."""
    for degree in range(most):
        for errors in range(most):
            for many in range(degree + 2 * errors + 1, most + 1):
                yield degree, errors, many


class DecodeTest(unittest.TestCase):
    def check_found(self, p, pairs, degree, errors, f):
        found = decode(p, pairs, degree, errors)
        self.assertEqual(found, f, (p, pairs, degree, errors))
        self.assertIs(type(found), tuple)

    def test_up_to_the_bound(self):
        for p in PRIMES:
            stream = Stream(p)
            for degree, errors, many in bounds(min(p, 12)):
                for wrong in range(errors + 1):
                    f = plain_trim(stream.numbers(p, degree + 1))
                    self.check_found(p, pairs_of(stream, p, f, many, wrong), degree, errors, f)

    def test_more_than_the_bound(self):
        # With one pair more than is needed, no other polynomial fits when one pair more than allowed is wrong.
        for p in PRIMES:
            stream = Stream(100 + p)
            for degree, errors, many in bounds(min(p, 12)):
                if many >= degree + 2 * errors + 2:
                    f = plain_trim(stream.numbers(p, degree + 1))
                    pairs = pairs_of(stream, p, f, many, errors + 1)
                    self.assertIsNone(decode(p, pairs, degree, errors), (p, pairs, degree, errors))

    def test_each_place_of_the_wrong_pairs(self):
        f = (3, 0, 5)
        for bad in itertools.combinations(range(9), 3):
            pairs = tuple((x, (plain_value(13, f, x) + (x in bad) * (1 + x)) % 13) for x in range(9))
            self.check_found(13, pairs, 2, 3, f)
            self.assertIsNone(decode(13, pairs[::-1], 2, 2))

    def test_like_trying_each_polynomial(self):
        stream = Stream(7)
        for p, degree, errors, many in ((11, 0, 0, 1), (11, 0, 1, 3), (11, 0, 2, 5), (11, 1, 0, 2), (11, 1, 1, 4),
                                        (11, 1, 2, 6), (11, 2, 1, 5), (13, 1, 1, 5), (13, 0, 3, 8)):
            answers = set()
            for _ in range(12):
                f = stream.numbers(p, degree + 1)
                pairs = pairs_of(stream, p, f, many, stream.below(many + 1))
                fitting = all_fitting(p, pairs, degree, errors)
                self.assertLessEqual(len(fitting), 1)
                found = decode(p, pairs, degree, errors)
                self.assertEqual(found, fitting[0] if fitting else None, (p, pairs, degree, errors))
                answers.add(found is None)
            self.assertIn(False, answers)

    def test_zeros_at_the_end(self):
        for p in PRIMES:
            stream = Stream(200 + p)
            for f in ((), (1,), (0, 1), (p - 1, 2), (0, 0, 0, 4)):
                for wrong in range(3):
                    self.check_found(p, pairs_of(stream, p, f, 10, wrong), 5, 2, f)
        self.assertEqual(decode(11, ((1, 0), (2, 0), (3, 7), (4, 0)), 1, 1), ())

    def test_degree_zero(self):
        self.assertEqual(decode(11, ((4, 7),), 0, 0), (7,))
        self.assertEqual(decode(11, ((4, 0),), 0, 0), ())
        self.assertEqual(decode(11, ((4, 7), (5, 8), (0, 7)), 0, 1), (7,))
        self.assertIsNone(decode(11, ((4, 7), (5, 8), (0, 6)), 0, 1))
        self.assertIsNone(decode(11, ((4, 7), (5, 8)), 0, 0))

    def test_the_degree_is_a_bound(self):
        squares = tuple((x, x * x % 101) for x in range(12))
        self.assertEqual(decode(101, squares, 2, 4), (0, 0, 1))
        self.assertEqual(decode(101, squares, 11, 0), (0, 0, 1))
        self.assertIsNone(decode(101, squares, 1, 5))

    def test_greatest_number_of_pairs(self):
        for p in (13, 17, 31, 101):
            stream = Stream(300 + p)
            for degree, errors in ((0, 5), (1, 5), (3, 4), (5, 3), (7, 2), (9, 1), (11, 0)):
                f = stream.polynomial(p, degree + 1)
                self.check_found(p, pairs_of(stream, p, f, 12, errors), degree, errors, f)

    def test_beyond_the_limits(self):
        line = tuple((x, (2 * x + 1) % 17) for x in range(16))
        self.assertEqual(decode(17, line, 1, 7), (1, 2))
        self.assertEqual(decode(17, line[:3] + ((3, 0),), 1, 1), (1, 2))
        # Fewer pairs than make the answer the only one: some polynomial of the degree, or None.
        self.assertEqual(len(decode(17, line[:2], 4, 0)), 2)
        self.assertEqual(decode(17, (), 0, 0), ())
        self.assertEqual(decode(17, (), 3, 2), ())
        self.assertIsNone(decode(17, line[:3] + ((3, 0), (4, 0)), 1, 0))

    def test_interface(self):
        self.assertEqual(decode.__module__, decoding.__name__)
        self.assertEqual(list(inspect.signature(decode).parameters), ["p", "pairs", "degree", "errors"])
        self.assertEqual(decode(p=11, pairs=((0, 1), (1, 2)), degree=1, errors=0), (1, 1))


if __name__ == "__main__":
    unittest.main()
