"""Points 57 to 59: from numbers to outcomes."""

import inspect
import itertools
import unittest

from sortes import drawing
from sortes.drawing import counts, drawn, needed, void_count
from sortes.errors import LimitError
from sortes.lots import size
from sortes.shares import outcomes
from tests.great_lots import A, ALL_TOO_GREAT, GREATEST, GREATEST_BOTH
from tests.plain_lots import NAMES, plain_all, small_lots
from tests.samples import PRIMES, Stream
from tests.values import DEEP, STRANGE


def of_size(total):
    return ("seats", 1, (("a", total),))


def plain_needed(p, total):
    return min(g for g in range(1, 60) if p ** g >= total)


def plain_drawn(p, e, attempts, numbers):
    everything = plain_all(e)
    total = len(everything)
    g = plain_needed(p, total)
    good = p ** g - p ** g % total
    for h in range(attempts):
        x = sum(number * p ** at for at, number in enumerate(numbers[h * g:(h + 1) * g]))
        if x < good:
            return ("drawn", x % total, everything[x % total], h)
    return ("void",)


class NeededTest(unittest.TestCase):
    def test_around_powers(self):
        for p in PRIMES:
            for g in range(1, 6):
                if p ** g < 10 ** 9:
                    for total, expected in ((p ** g - 1, g), (p ** g, g), (p ** g + 1, g + 1)):
                        self.assertEqual(needed(p, of_size(total)), expected, (p, total))

    def test_a_size_of_one(self):
        for p in PRIMES:
            for e in (A, ("both", (A, A)), ("draw", 0, ("a", "b")), ("set", 2, ("a", "b"))):
                self.assertEqual(needed(p, e), 1)

    def test_random_lots(self):
        for e in small_lots(200, Stream(31), 10 ** 9):
            for p in PRIMES:
                self.assertEqual(needed(p, e), plain_needed(p, size(e)))

    def test_the_greatest_lots(self):
        self.assertEqual([needed(p, GREATEST) for p in PRIMES], [12, 11, 10, 9, 6])
        self.assertEqual([needed(p, GREATEST_BOTH) for p in PRIMES], [12, 11, 10, 9, 6])


class DrawnTest(unittest.TestCase):
    def test_known_answers(self):
        # 11 numbers for 3 outcomes: 9 of them are good.
        e = ("order", ("a", "b"))
        three = ("draw", 1, ("x", "y", "z"))
        self.assertEqual(drawn(11, three, 1, (0,)), ("drawn", 0, ("x",), 0))
        self.assertEqual(drawn(11, three, 1, (8,)), ("drawn", 2, ("z",), 0))
        self.assertEqual(drawn(11, three, 1, (9,)), ("void",))
        self.assertEqual(drawn(11, three, 2, (9, 7)), ("drawn", 1, ("y",), 1))
        self.assertEqual(drawn(11, three, 3, (9, 10, 3)), ("drawn", 0, ("x",), 2))
        self.assertEqual(drawn(11, three, 4, (9, 10, 10, 5)), ("drawn", 2, ("z",), 3))
        self.assertEqual(drawn(11, three, 4, (9, 10, 10, 9)), ("void",))
        self.assertEqual(drawn(11, e, 2, (10, 9)), ("drawn", 1, ("b", "a"), 1))

    def test_the_first_number_counts_least(self):
        e = of_size(121)
        for x1, x2 in itertools.product(range(11), repeat=2):
            self.assertEqual(drawn(11, e, 1, (x1, x2))[:2], ("drawn", x1 + 11 * x2))
        # 100 of 121 numbers are good.
        e = of_size(100)
        self.assertEqual(drawn(11, e, 2, (0, 9, 1, 0))[1:], (99, (("a", 1),), 0))
        self.assertEqual(drawn(11, e, 2, (1, 9, 1, 2))[1:], (23, (("a", 1),), 1))
        self.assertEqual(drawn(11, e, 2, (1, 9, 10, 10)), ("void",))

    def test_the_first_good_attempt_draws(self):
        three = ("draw", 1, ("x", "y", "z"))
        for row in itertools.product(range(11), repeat=3):
            good = [h for h in range(3) if row[h] < 9]
            told = drawn(11, three, 3, row)
            if good:
                k = row[good[0]] % 3
                self.assertEqual(told, ("drawn", k, ("xyz"[k],), good[0]))
            else:
                self.assertEqual(told, ("void",))

    def test_a_size_of_one(self):
        for p in PRIMES:
            for number in range(p):
                self.assertEqual(drawn(p, A, 1, (number,)), ("drawn", 0, "a", 0))
                self.assertEqual(drawn(p, A, 2, (number, 5)), ("drawn", 0, "a", 0))

    def test_like_the_plain_reckoning(self):
        attempts_seen = set()
        stream = Stream(37)
        for e in small_lots(150, Stream(32), 2000):
            for p in PRIMES:
                for attempts in (1, 2, 3, 4):
                    for _ in range(3):
                        numbers = stream.numbers(p, needed(p, e) * attempts)
                        told = drawn(p, e, attempts, numbers)
                        self.assertEqual(told, plain_drawn(p, e, attempts, numbers), (p, e, attempts, numbers))
                        attempts_seen.add(told[-1])
        self.assertEqual(attempts_seen, {0, 1, 2, 3, "void"})

    def test_great_lots(self):
        self.assertEqual(drawn(11, GREATEST, 1, (0,) * 12), ("drawn", 0, ("a",) * 12, 0))
        # 11 to the power of 12 is 3138428376721, so that D is 3.
        self.assertEqual(drawn(11, GREATEST, 1, (1,) + (0,) * 11)[1:], (1, ("a",) * 11 + ("b",), 0))
        self.assertEqual(drawn(11, GREATEST, 1, (10,) * 12), ("void",))
        self.assertEqual(drawn(11, GREATEST, 2, (10,) * 12 + (0,) * 11 + (9,))[1], 9 * 11 ** 11 % 10 ** 12)


class CountsTest(unittest.TestCase):
    def check_all(self, p, e, attempts):
        """Check the counts against all tuples of numbers."""
        found = {}
        void = 0
        for row in itertools.product(range(p), repeat=needed(p, e) * attempts):
            told = drawn(p, e, attempts, row)
            if told == ("void",):
                void += 1
            else:
                found[told[2]] = found.get(told[2], 0) + 1
        self.assertEqual(void_count(p, e, attempts), void, (p, e, attempts))
        for outcome in {*plain_all(e), *found}:
            self.assertEqual(counts(p, e, attempts, outcome), found.get(outcome, 0), (p, e, attempts, outcome))
        return void

    def test_one_number_an_attempt(self):
        for total in (1, 2, 3, 4, 5, 6, 7, 9, 10, 11):
            for attempts in (1, 2, 3):
                void = self.check_all(11, of_size(total), attempts)
                self.assertEqual(void, (11 % total) ** attempts)
        self.check_all(11, ("order", ("a", "b")), 4)

    def test_each_kind(self):
        for e in (("among", ((2, A), (1, ("order", ("a", "b"))))),
                  ("both", (("order", ("a", "b")), ("again", 1, ("a", "b")))),
                  ("order", ("a", "b", "c")), ("draw", 1, ("a", "b", "c")), ("set", 2, NAMES[:5]),
                  ("again", 3, ("a", "b")),
                  ("prizes", 2, (("a", 1), ("b", 2))), ("seats", 5, (("a", 4), ("b", 0), ("c", 3)))):
            for p in (11, 13):
                for attempts in (1, 2, 3):
                    self.check_all(p, e, attempts)

    def test_two_numbers_an_attempt(self):
        for e in (of_size(12), of_size(60), of_size(61), of_size(120), of_size(121), ("set", 4, NAMES[:8]),
                  ("order", NAMES[:4]),
                  ("among", ((7, A), (1, of_size(13)), (1, A)))):
            for attempts in (1, 2):
                self.check_all(11, e, attempts)

    def test_random_lots(self):
        for e in small_lots(120, Stream(33), 13):
            self.check_all(13, e, 2)

    def test_a_size_that_divides_a_power(self):
        for p in PRIMES:
            for e in (A, of_size(p), of_size(p * p)):
                for attempts in (1, 2, 3, 4):
                    self.assertEqual(void_count(p, e, attempts), 0)
                    g = needed(p, e)
                    self.assertEqual(counts(p, e, attempts, outcomes(e, 1)[0][0]), p ** (g * attempts))

    def test_a_known_count(self):
        # D is 3 and B is 2 for the size 3; the sums are 1, 11 + 2, 121 + 22 + 4, 1331 + 242 + 44 + 8.
        three = ("draw", 1, ("x", "y", "z"))
        for attempts, expected in ((1, 3), (2, 39), (3, 441), (4, 4875)):
            for x in "xyz":
                self.assertEqual(counts(11, three, attempts, (x,)), expected)
            self.assertEqual(void_count(11, three, attempts), 2 ** attempts)
            self.assertEqual(3 * expected + 2 ** attempts, 11 ** attempts)

    def test_all_together(self):
        for e in small_lots(150, Stream(34), 3000):
            for p in PRIMES:
                for attempts in (1, 2, 3, 4):
                    told = sum(counts(p, e, attempts, outcome) for outcome, _ in outcomes(e, 3000)[:12])
                    if len(outcomes(e, 3000)) <= 12:
                        self.assertEqual(told + void_count(p, e, attempts), p ** (needed(p, e) * attempts))

    def test_each_outcome_has_its_share(self):
        for e in small_lots(100, Stream(35), 1000):
            for p in (11, 101):
                told = outcomes(e, 1000)
                good = p ** (3 * needed(p, e)) - void_count(p, e, 3)
                for outcome, many in told[:10]:
                    self.assertEqual(counts(p, e, 3, outcome) * size(e), good * many)

    def test_no_outcomes(self):
        for e in (A, ("order", ("x", "y")), ("seats", 2, (("x", 1), ("y", 2))), GREATEST):
            for value in STRANGE:
                if value != "a" or e != A:
                    for attempts in (1, 4):
                        self.assertEqual(counts(11, e, attempts, value), 0)

    def test_great_lots(self):
        self.assertEqual(counts(11, GREATEST, 1, ("a",) * 12), 3)
        self.assertEqual(void_count(11, GREATEST, 1), 138428376721)
        self.assertEqual(counts(101, GREATEST, 4, ("a",) * 12) * 10 ** 12 + void_count(101, GREATEST, 4), 101 ** 24)


class LimitTest(unittest.TestCase):
    def test_lots_that_are_too_great(self):
        for e in ALL_TOO_GREAT:
            self.assertRaises(LimitError, needed, 11, e)
            for attempts in (0, 1, 4, 9, -1):
                self.assertRaises(LimitError, drawn, 11, e, attempts, ())
                self.assertRaises(LimitError, drawn, 11, e, attempts, (1,) * 50)
                self.assertRaises(LimitError, counts, 11, e, attempts, None)
                self.assertRaises(LimitError, counts, 11, e, attempts, DEEP)
                self.assertRaises(LimitError, void_count, 11, e, attempts)


class FormTest(unittest.TestCase):
    def test_kinds_of_values(self):
        self.assertEqual(repr(drawn(11, ("order", ("a", "b")), 1, (3,))), "('drawn', 1, ('b', 'a'), 0)")
        self.assertEqual(repr(drawn(11, ("draw", 1, ("a", "b", "c")), 1, (9,))), "('void',)")
        for told in (needed(11, A), counts(11, A, 2, "a"), counts(11, A, 2, "b"), void_count(11, A, 2)):
            self.assertIs(type(told), int)

    def test_answers_do_not_depend_on_earlier_calls(self):
        some = [(p, e, attempts) for e in small_lots(30, Stream(36), 100) for p in (11, 31) for attempts in (1, 2)]

        def told(p, e, attempts):
            return (drawn(p, e, attempts, (7,) * 4), counts(p, e, attempts, "a"), void_count(p, e, attempts),
                    needed(p, e))
        first = [told(*case) for case in some]
        self.assertEqual([told(*case) for case in reversed(some)], first[::-1])

    def test_beyond_the_limits(self):
        three = ("draw", 1, ("x", "y", "z"))
        self.assertEqual(drawn(11, three, 0, ()), ("void",))
        self.assertEqual((counts(11, three, 0, ("x",)), void_count(11, three, 0)), (0, 1))
        self.assertEqual(counts(11, three, 5, ("x",)) * 3 + void_count(11, three, 5), 11 ** 5)
        for numbers in ((), (12,), (-1, 30), (9, 9, 9, 9, 9, 9)):
            for attempts in (-1, 0, 1, 2, 5):
                drawn(11, three, attempts, numbers)
        for e in (("draw", 3, ("a", "b")), ("seats", 1, (("a", 0),)), ("among", ((0, A),)), ("among", ((-2, A),))):
            for attempts in (1, 2):
                needed(11, e)
                drawn(11, e, attempts, (1, 2))
                counts(11, e, attempts, ("a",))
                void_count(11, e, attempts)

    def test_interface(self):
        for function, names in ((needed, ["p", "e"]), (drawn, ["p", "e", "attempts", "numbers"]),
                                (counts, ["p", "e", "attempts", "o"]), (void_count, ["p", "e", "attempts"])):
            self.assertEqual(function.__module__, drawing.__name__)
            self.assertEqual(list(inspect.signature(function).parameters), names)


if __name__ == "__main__":
    unittest.main()
