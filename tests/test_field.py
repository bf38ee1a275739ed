"""Point 3: numbers modulo a prime, their inverses and powers."""

import unittest

from sortes import field
from sortes.field import inverse, power
from tests.samples import PRIMES


class InverseTest(unittest.TestCase):
    def test_product_is_one(self):
        for p in PRIMES:
            for a in range(1, p):
                with self.subTest(p=p, a=a):
                    found = inverse(p, a)
                    self.assertIs(type(found), int)
                    self.assertIn(found, range(1, p))
                    self.assertEqual(a * found % p, 1)

    def test_quotients(self):
        # The quotient of c and b is the only number whose product with b is c.
        for p in PRIMES:
            for b in range(1, p):
                for c in range(p):
                    quotients = [a for a in range(p) if a * b % p == c] if p < 32 else [c * pow(b, -1, p) % p]
                    self.assertEqual([c * inverse(p, b) % p], quotients, (p, b, c))

    def test_beyond_the_limits(self):
        # Integers that are no numbers stand for the numbers that they are modulo p.
        for p in PRIMES:
            for a in range(1, p):
                self.assertEqual(inverse(p, a + p), inverse(p, a))
                self.assertEqual(inverse(p, a - p), inverse(p, a))
            for a in (0, p, -p):
                self.assertIn(inverse(p, a), range(p))

    def test_argument_names(self):
        self.assertEqual(inverse(p=11, a=4), 3)

    def test_defined_where_the_interface_lists_them(self):
        for function in (inverse, power):
            self.assertEqual(function.__module__, field.__name__)


class PowerTest(unittest.TestCase):
    def test_product_of_the_factors(self):
        for p in PRIMES:
            for a in range(p):
                product = 1
                for k in range(2 * p + 3):
                    with self.subTest(p=p, a=a, k=k):
                        found = power(p, a, k)
                        self.assertIs(type(found), int)
                        self.assertEqual(found, product)
                    product = product * a % p

    def test_no_factors(self):
        for p in PRIMES:
            for a in range(p):
                self.assertEqual(power(p, a, 0), 1)

    def test_factors_zero(self):
        for p in PRIMES:
            self.assertEqual(power(p, 0, 0), 1)
            for k in (1, 2, 3, p - 1, p, 10 ** 30):
                self.assertEqual(power(p, 0, k), 0)

    def test_many_factors(self):
        # The products of a with itself come again after p - 1 factors.
        for p in PRIMES:
            for k in (10 ** 6, 2 ** 64 - 1, 2 ** 64, 10 ** 100 + 7):
                for a in range(1, p):
                    product = 1
                    for _ in range(k % (p - 1)):
                        product = product * a % p
                    self.assertEqual(power(p, a, k), product, (p, a, k))

    def test_beyond_the_limits(self):
        for p in PRIMES:
            for a in range(p):
                for k in (0, 1, 2, 5, p):
                    self.assertEqual(power(p, a + 3 * p, k), power(p, a, k))
                    self.assertEqual(power(p, a - 2 * p, k), power(p, a, k))
            self.assertIn(power(p, 2, -1), range(p))

    def test_argument_names(self):
        self.assertEqual(power(p=11, a=2, k=5), 10)


class SameAnswersTest(unittest.TestCase):
    def test_answers_do_not_depend_on_earlier_calls(self):
        calls = [(p, a, k) for k in (0, 1, 7, 100) for p in PRIMES for a in range(1, p)]
        answers = [(inverse(p, a), power(p, a, k)) for p, a, k in calls]
        again = [(inverse(p, a), power(p, a, k)) for p, a, k in reversed(calls)]
        self.assertEqual(again[::-1], answers)


if __name__ == "__main__":
    unittest.main()
