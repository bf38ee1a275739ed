"""Point 5: polynomials, and point 2 for them."""

import copy
import itertools
import unittest

from sortes import poly
from sortes.poly import interpolate, plus, times, trimmed, value
from tests.samples import PRIMES, Stream, plain_plus, plain_times, plain_trim, plain_value


class PolyTest(unittest.TestCase):
    def check_form(self, p, f):
        self.assertIs(type(f), tuple)
        for c in f:
            self.assertIs(type(c), int)
            self.assertIn(c, range(p))
        self.assertNotEqual(f[-1:], (0,))


def pairs_of_lengths(p, seed):
    """Polynomials of each two numbers of coefficients up to eight, several times."""
    stream = Stream(seed + p)
    for j, k in itertools.product(range(9), repeat=2):
        for _ in range(6):
            yield stream.polynomial(p, j), stream.polynomial(p, k)


def small_polynomials(p):
    """All polynomials of at most two coefficients out of a few."""
    few = (0, 1, 2, p // 2, p // 2 + 1, p - 2, p - 1)
    return sorted({plain_trim(numbers) for numbers in itertools.product(few, repeat=2)})


class TrimmedTest(PolyTest):
    def test_integers_of_any_size_and_sign(self):
        for p in PRIMES:
            stream = Stream(p)
            for many in range(9):
                for _ in range(30):
                    numbers = stream.polynomial(p, many)
                    integers = tuple(c + p * (stream.below(41) - 20) * 10 ** stream.below(25) for c in numbers)
                    found = trimmed(p, integers)
                    self.check_form(p, found)
                    self.assertEqual(found, numbers, (p, integers))

    def test_already_trimmed(self):
        for p in PRIMES:
            for f in small_polynomials(p):
                self.assertEqual(trimmed(p, f), f)

    def test_zeros_at_the_end(self):
        for p in PRIMES:
            for zeros in ((0,), (p,), (-p,), (0, p, -p), (p * 10 ** 20, 0), (0,) * 8):
                for f in ((), (1,), (0, 0, 3), (5, 0, p - 1)):
                    found = trimmed(p, f + zeros)
                    self.check_form(p, found)
                    self.assertEqual(found, f, (p, f, zeros))

    def test_zeros_at_the_beginning_stay(self):
        for p in PRIMES:
            self.assertEqual(trimmed(p, (0, p, -1, 0)), (0, 0, p - 1))

    def test_no_coefficients(self):
        for p in PRIMES:
            self.assertEqual(trimmed(p, ()), ())

    def test_known_answers(self):
        self.assertEqual(trimmed(11, (12, -1, 22, 33)), (1, 10))
        self.assertEqual(trimmed(101, (-1, -101, 203)), (100, 0, 1))


class ValueTest(PolyTest):
    def test_sum_of_the_terms(self):
        for p in PRIMES:
            stream = Stream(100 + p)
            for many in range(9):
                for _ in range(4):
                    f = stream.polynomial(p, many)
                    for x in range(p):
                        found = value(p, f, x)
                        self.assertIs(type(found), int)
                        self.assertEqual(found, plain_value(p, f, x), (p, f, x))

    def test_zero_polynomial(self):
        for p in PRIMES:
            for x in range(p):
                self.assertEqual(value(p, (), x), 0)

    def test_at_zero_is_the_constant_coefficient(self):
        for p in PRIMES:
            for f in small_polynomials(p):
                self.assertEqual(value(p, f, 0), f[0] if f else 0)

    def test_known_answers(self):
        self.assertEqual(value(11, (3, 2, 1), 4), 5)
        self.assertEqual(value(101, (0, 0, 1), 100), 1)

    def test_beyond_the_limits(self):
        for p in PRIMES:
            self.assertEqual(value(p, (p + 1, -1, 0), p + 2), p - 1)
            self.assertEqual(value(p, (1, 1), -1), 0)


class PlusTest(PolyTest):
    def check(self, p, f, g):
        found = plus(p, f, g)
        self.check_form(p, found)
        self.assertEqual(found, plain_plus(p, f, g), (p, f, g))

    def test_up_to_eight_coefficients(self):
        for p in PRIMES:
            for f, g in pairs_of_lengths(p, 200):
                self.check(p, f, g)

    def test_small_polynomials(self):
        for p in PRIMES:
            for f, g in itertools.product(small_polynomials(p), repeat=2):
                self.check(p, f, g)

    def test_zero_polynomial(self):
        for p in PRIMES:
            self.assertEqual(plus(p, (), ()), ())
            for f, _ in pairs_of_lengths(p, 300):
                self.assertEqual(plus(p, f, ()), f)
                self.assertEqual(plus(p, (), f), f)

    def test_highest_coefficients_cancel(self):
        for p in PRIMES:
            for f, top in pairs_of_lengths(p, 400):
                # The upper part of the second summand is the opposite of that of the first one.
                first = f + (0,) * (8 - len(f)) + top
                second = (0,) * 8 + tuple(-c % p for c in top)
                self.check(p, plain_trim(first), plain_trim(second))
                self.assertEqual(plus(p, plain_trim(first), plain_trim(second)), f)

    def test_opposites(self):
        for p in PRIMES:
            for f, _ in pairs_of_lengths(p, 500):
                self.assertEqual(plus(p, f, tuple(-c % p for c in f)), ())

    def test_known_answers(self):
        self.assertEqual(plus(11, (1, 2, 3), (10, 9, 8)), ())
        self.assertEqual(plus(11, (1, 2, 3), (5, 0, 8)), (6, 2))
        self.assertEqual(plus(13, (7,), (7, 7)), (1, 7))

    def test_beyond_the_limits(self):
        for p in PRIMES:
            self.assertEqual(plus(p, (p + 1, 0, 0), (-1, -1, 0, 0)), (0, p - 1))


class TimesTest(PolyTest):
    def check(self, p, f, g):
        found = times(p, f, g)
        self.check_form(p, found)
        self.assertEqual(found, plain_times(p, f, g), (p, f, g))

    def test_up_to_eight_coefficients(self):
        for p in PRIMES:
            for f, g in pairs_of_lengths(p, 600):
                self.check(p, f, g)

    def test_small_polynomials(self):
        for p in PRIMES:
            for f, g in itertools.product(small_polynomials(p), repeat=2):
                self.check(p, f, g)

    def test_zero_polynomial(self):
        for p in PRIMES:
            self.assertEqual(times(p, (), ()), ())
            for f, _ in pairs_of_lengths(p, 700):
                self.assertEqual(times(p, f, ()), ())
                self.assertEqual(times(p, (), f), ())

    def test_one(self):
        for p in PRIMES:
            for f, _ in pairs_of_lengths(p, 800):
                self.assertEqual(times(p, f, (1,)), f)
                self.assertEqual(times(p, (1,), f), f)

    def test_degrees_add_up(self):
        for p in PRIMES:
            for f, g in pairs_of_lengths(p, 900):
                if f and g:
                    self.assertEqual(len(times(p, f, g)), len(f) + len(g) - 1)

    def test_known_answers(self):
        self.assertEqual(times(11, (1, 1), (10, 1)), (10, 0, 1))
        self.assertEqual(times(31, (0, 2), (0, 0, 16)), (0, 0, 0, 1))

    def test_beyond_the_limits(self):
        for p in PRIMES:
            self.assertEqual(times(p, (-1, p + 1, 0), (1, 1, p)), (p - 1, 0, 1))


class InterpolateTest(PolyTest):
    def check(self, p, pairs):
        """The form, the degree and the values leave only one polynomial."""
        found = interpolate(p, pairs)
        self.check_form(p, found)
        self.assertLessEqual(len(found), len(pairs), (p, pairs))
        for x, y in pairs:
            self.assertEqual(plain_value(p, found, x), y, (p, pairs, x))

    def test_one_pair(self):
        for p in PRIMES:
            for x in range(p):
                for y in (0, 1, p // 2, p - 1):
                    expected = (y,) if y else ()
                    self.assertEqual(interpolate(p, ((x, y),)), expected)

    def test_many_pairs(self):
        for p in PRIMES:
            stream = Stream(1000 + p)
            for many in range(1, 12):
                for _ in range(10):
                    places = stream.shuffled(range(p))[:many]
                    self.check(p, tuple((x, stream.below(p)) for x in places))

    def test_pairs_at_all_places(self):
        for p in PRIMES:
            stream = Stream(1100 + p)
            f = stream.polynomial(p, p)
            for places in (range(p), range(p - 1, -1, -1), stream.shuffled(range(p))):
                pairs = tuple((x, plain_value(p, f, x)) for x in places)
                self.assertEqual(interpolate(p, pairs), f)

    def test_any_order(self):
        for p in PRIMES:
            stream = Stream(1200 + p)
            f = stream.polynomial(p, 4)
            pairs = [(x, plain_value(p, f, x)) for x in (0, 3, 7, p - 1)]
            for order in itertools.permutations(pairs):
                self.assertEqual(interpolate(p, order), f)

    def test_lesser_degree(self):
        for p in PRIMES:
            stream = Stream(1300 + p)
            for many in range(1, 10):
                for length in range(many + 1):
                    f = stream.polynomial(p, length)
                    places = stream.shuffled(range(p))[:many]
                    pairs = tuple((x, plain_value(p, f, x)) for x in places)
                    found = interpolate(p, pairs)
                    self.check_form(p, found)
                    self.assertEqual(found, f, (p, pairs))

    def test_all_zero(self):
        for p in PRIMES:
            stream = Stream(1400 + p)
            for many in range(1, p + 1):
                places = stream.shuffled(range(p))[:many]
                self.assertEqual(interpolate(p, tuple((x, 0) for x in places)), ())

    def test_no_pairs(self):
        # Only the zero polynomial, of the degree -1, has a degree less than 0.
        for p in PRIMES:
            self.assertEqual(interpolate(p, ()), ())

    def test_known_answers(self):
        self.assertEqual(interpolate(11, ((1, 2), (2, 4))), (0, 2))
        self.assertEqual(interpolate(11, ((0, 1), (1, 2), (2, 5))), (1, 0, 1))

    def test_beyond_the_limits(self):
        for p in PRIMES:
            self.assertEqual(interpolate(p, ((1, p + 2), (2, 4 - p))), (0, 2))
            # First parts that are not different leave no polynomial to return, but raise no error.
            self.check_form(p, interpolate(p, ((1, 2), (1, 2))))
            self.check_form(p, interpolate(p, ((1, 2), (1, 3))))


class PointTwoTest(PolyTest):
    def calls(self):
        """A function and its arguments; lists stand in for tuples where a function could modify them."""
        for p in PRIMES:
            stream = Stream(1500 + p)
            for many in range(9):
                f, g = stream.polynomial(p, many), stream.polynomial(p, 8 - many)
                pairs = tuple((x, stream.below(p)) for x in stream.shuffled(range(p))[:many])
                for told in (tuple, list):
                    yield trimmed, (p, told(f + (p, -p, 0)))
                    yield value, (p, told(f), stream.below(p))
                    yield plus, (p, told(f), told(g))
                    yield times, (p, told(f), told(g))
                    yield interpolate, (p, told(told(pair) for pair in pairs))

    def test_arguments_are_not_modified(self):
        for function, arguments in self.calls():
            before = copy.deepcopy(arguments)
            function(*arguments)
            self.assertEqual(arguments, before)

    def test_answers_do_not_depend_on_earlier_calls(self):
        calls = list(self.calls())
        answers = [function(*arguments) for function, arguments in calls]
        again = [function(*arguments) for function, arguments in reversed(calls)]
        self.assertEqual(again[::-1], answers)


class InterfaceTest(unittest.TestCase):
    def test_argument_names(self):
        self.assertEqual(trimmed(p=11, coefficients=(12, 0)), (1,))
        self.assertEqual(value(p=11, f=(1, 2), x=3), 7)
        self.assertEqual(plus(p=11, f=(1, 2), g=(3,)), (4, 2))
        self.assertEqual(times(p=11, f=(1, 2), g=(3,)), (3, 6))
        self.assertEqual(interpolate(p=11, pairs=((5, 6),)), (6,))

    def test_defined_where_the_interface_lists_them(self):
        for function in (trimmed, value, plus, times, interpolate):
            self.assertEqual(function.__module__, poly.__name__)


if __name__ == "__main__":
    unittest.main()
