"""Points 53 to 55: shares, ranks, and all outcomes."""

import inspect
import itertools
import unittest

from sortes import shares
from sortes.errors import LimitError
from sortes.lots import is_lot, size, unrank
from sortes.shares import outcomes, rank, share
from tests.great_lots import A, ALL_TOO_GREAT, GREATEST, GREATEST_BOTH, TOO_GREAT
from tests.plain_lots import NAMES, plain_all, plain_shares, small_lots
from tests.samples import Stream
from tests.values import DEEP, DEEP_BEHIND, STRANGE, WIDE, neighbours


def plain_found(expected, value):
    """The least number with this outcome, and how many have it. Deep values are no keys, so all are compared."""
    places = [k for k, outcome in enumerate(expected) if outcome == value]
    return (places[0] if places else None), len(places)


class ShareCase(unittest.TestCase):
    def check_value(self, e, expected, value):
        """Check a value against the list of all outcomes. Values are not shown: some are too deep for this."""
        least, many = plain_found(expected, value)
        self.assertTrue(share(e, value) == (many, len(expected)), e)
        self.assertTrue(rank(e, value) == least, e)

    def check(self, e):
        """Check the outcomes of a lot against those that unrank makes."""
        expected = [unrank(e, k) for k in range(size(e))]
        found = {}
        for outcome in expected:
            found[outcome] = found.get(outcome, 0) + 1
        told = list(found.items())
        for most in (len(told), len(told) + 1, 10 ** 9):
            self.assertEqual(outcomes(e, most), told, e)
        for most in {0, 1, len(told) // 2, len(told) - 1} - {len(told)}:
            self.assertIsNone(outcomes(e, most), e)
        for outcome in list(found)[:40]:
            self.check_value(e, expected, outcome)
        return expected


class KindsTest(ShareCase):
    LOTS = (
        A, ("order", ("b", "a", "c")), ("draw", 0, ("a", "b")), ("draw", 2, ("b", "a", "c", "d")),
        ("draw", 3, ("c", "b", "a")),
        ("set", 0, ("a", "b")), ("set", 2, ("d", "a", "c", "b")), ("set", 4, ("d", "a", "c", "b")),
        ("set", 1, ("d", "a")), ("again", 0, ("a", "b")), ("again", 3, ("b", "a")), ("again", 5, ("x",)),
        ("prizes", 0, (("a", 2), ("b", 3))), ("prizes", 1, (("a", 2), ("b", 3))), ("prizes", 2, (("a", 2), ("b", 3))),
        ("prizes", 3, (("a", 1), ("b", 2), ("c", 1), ("d", 1))), ("seats", 3, (("a", 2), ("b", 0), ("c", 3))),
        ("seats", 0, (("a", 2), ("b", 5))), ("seats", 7, (("b", 5), ("a", 5), ("c", 3), ("d", 11))),
        ("seats", 9, (("a", 0), ("b", 4), ("c", 0))), ("among", ((2, A), (3, ("sure", "b")))),
        ("among", ((1, A), (2, ("sure", "b")), (3, A), (0, ("sure", "c")), (1, ("sure", "b")))),
        ("among", ((1, ("order", ("a", "b"))), (2, ("draw", 2, ("b", "c", "a"))), (1, ("both", (("sure", "b"), A))))),
        ("both", (A,)), ("both", (("draw", 1, ("a", "b")), ("among", ((1, A), (2, ("sure", "c")))), A)),
        ("both", (("both", (("both", (("seats", 1, (("a", 1), ("b", 1))),)),)),)),
    )

    def test_all_outcomes(self):
        for e in self.LOTS:
            self.assertEqual(self.check(e), plain_all(e))

    def test_values_that_are_no_outcomes(self):
        parts = (None, "", "a", "b", "z", 0, 1, 3, -1, (), ("a",), ("a", "b"), (("a", 1),), DEEP, DEEP_BEHIND)
        for e in self.LOTS:
            expected = plain_all(e)
            for outcome in dict(plain_shares(e)):
                for changed in itertools.islice(neighbours(outcome, parts), 200):
                    self.check_value(e, expected, changed)
            for value in STRANGE + ((DEEP, DEEP), ("a", DEEP), (("a", 1), ("b", DEEP)), (WIDE, WIDE, WIDE)):
                self.check_value(e, expected, value)

    def test_random_lots(self):
        for e in small_lots(400, Stream(21), 400):
            self.check(e)

    def test_neighbours_of_outcomes_of_random_lots(self):
        parts = (None, "a", "c", 2, (), ("b",))
        for e in small_lots(80, Stream(22), 60):
            expected = plain_all(e)
            for outcome in list(dict(plain_shares(e)))[:4]:
                for changed in itertools.islice(neighbours(outcome, parts), 60):
                    self.check_value(e, expected, changed)

    def test_like_the_plain_reckoning(self):
        for e in small_lots(100, Stream(23), 3000):
            told = plain_shares(e)
            self.assertEqual(outcomes(e, len(told)), told, e)

    def test_known_answers(self):
        e = ("among", ((2, A), (3, ("order", ("a", "b"))), (1, A)))
        self.assertEqual(share(e, "a"), (6, 12))
        self.assertEqual(share(e, ("a", "b")), (3, 12))
        self.assertEqual(share(e, ("b", "a")), (3, 12))
        self.assertEqual(share(e, "b"), (0, 12))
        self.assertEqual([rank(e, o) for o in ("a", ("a", "b"), ("b", "a"), "b")], [0, 4, 5, None])
        self.assertEqual(outcomes(e, 3), [("a", 6), (("a", "b"), 3), (("b", "a"), 3)])
        self.assertIsNone(outcomes(e, 2))

    def test_outcomes_of_different_kinds_that_are_equal(self):
        e = ("among", ((1, ("draw", 2, ("a", "b", "c"))), (1, ("both", (A, ("sure", "b")))),
                       (2, ("prizes", 2, (("b", 1), ("a", 3)))), (1, ("again", 2, ("a", "b"))),
                       (0, ("order", ("a", "b")))))
        expected = self.check(e)
        self.assertEqual(share(e, ("a", "b")), (expected.count(("a", "b")), len(expected)))
        self.assertIsNotNone(rank(e, ("b", "b")))
        self.assertEqual(share(e, ("c", "c")), (0, len(expected)))

    def test_a_weight_of_zero(self):
        e = ("among", ((0, ("order", NAMES)), (1, A), (0, ("sure", "b"))))
        self.assertEqual(outcomes(e, 1), [("a", 1)])
        self.assertEqual((share(e, "b"), rank(e, "b")), ((0, 1), None))
        self.assertEqual((share(e, NAMES), rank(e, NAMES)), ((0, 1), None))


class MostTest(ShareCase):
    def test_no_outcomes_allowed(self):
        for e in KindsTest.LOTS + (GREATEST, GREATEST_BOTH):
            self.assertIsNone(outcomes(e, 0))

    def test_exactly_as_many(self):
        for e in small_lots(150, Stream(24), 200):
            many = len(plain_shares(e))
            self.assertEqual(len(outcomes(e, many)), many)
            self.assertIsNone(outcomes(e, many - 1))

    def test_does_not_go_through_more_than_some(self):
        wide = ("among", ((1, A), (1, GREATEST)))
        for e in (GREATEST, GREATEST_BOTH, ("order", NAMES), ("both", (("order", NAMES), ("again", 2, NAMES))),
                  ("set", 6, NAMES), ("among", ((500, ("order", NAMES)), (500, A))),
                  ("both", tuple(("seats", 51, (("a", 3), ("b", 4), ("c", 3))) for _ in range(12)))):
            self.assertTrue(is_lot(e))
            for most in (0, 1, 2, 100, 900):
                self.assertIsNone(outcomes(e, most))
        self.assertRaises(LimitError, outcomes, wide, 1)

    def test_few_outcomes_of_a_great_lot(self):
        e = ("among", ((99, ("seats", 1, (("a", 99991), ("b", 1)))), (1, ("seats", 1, (("a", 1), ("b", 99989))))))
        total = size(e)
        self.assertEqual(total, 100 * 99992 * 99990 // 2)
        one, two = (("a", 1), ("b", 0)), (("a", 0), ("b", 1))
        # In 99 of 100 cases a gets the seat for 99991 of 99992 numbers, in the last one for 1 of 99990.
        many = 99 * 99991 * (99990 // 2) + 1 * (99992 // 2)
        self.assertEqual(outcomes(e, 2), [(two, total - many), (one, many)])
        self.assertEqual(share(e, one), (many, total))
        self.assertEqual((rank(e, one), rank(e, two)), (1, 0))
        self.assertIsNone(outcomes(e, 1))
        many_equal = ("both", (("among", ((1000, A),)),) * 4)
        self.assertEqual(outcomes(many_equal, 1), [(("a",) * 4, 10 ** 12)])
        self.assertIsNone(outcomes(many_equal, 0))


class GreatTest(ShareCase):
    """Lots with sizes up to 10 ** 12."""

    def test_rank_and_unrank(self):
        prizes = ("prizes", 5, tuple((name, tickets) for name, tickets in zip("abcde", (1, 2, 3, 4, 5))))
        seats = ("seats", 997, tuple((name, 99 + 8131 * at) for at, name in enumerate(NAMES)))
        some = (GREATEST, GREATEST_BOTH, ("order", NAMES), ("draw", 9, NAMES), ("set", 6, NAMES), ("again", 11, NAMES),
                prizes,
                ("both", (("order", NAMES[:9]), seats)),
                ("among", ((500, ("both", (("again", 9, NAMES[:10]),))), (500, A))),
                ("among", ((3, ("order", NAMES)), (4, ("draw", 5, NAMES)), (1, ("order", NAMES[::-1])))))
        for e in some:
            total = size(e)
            for k in {0, 1, total // 3, total // 2 - 1, total // 2, total - 2, total - 1}:
                outcome = unrank(e, k)
                least = rank(e, outcome)
                many, of = share(e, outcome)
                self.assertEqual(of, total)
                self.assertGreater(many, 0)
                self.assertLessEqual(least, k)
                self.assertEqual(unrank(e, least), outcome)

    def test_one_number_for_each_outcome(self):
        for e in (GREATEST, GREATEST_BOTH, ("order", NAMES), ("again", 11, NAMES),
                  ("both", (("order", NAMES), ("set", 6, NAMES)))):
            total = size(e)
            for k in (0, 1, 12345678901, total // 7, total - 1):
                k = min(k, total - 1)
                self.assertEqual(rank(e, unrank(e, k)), k)
                self.assertEqual(share(e, unrank(e, k)), (1, total))

    def test_no_outcomes(self):
        for value in STRANGE + (("a",) * 11, ("a",) * 13, ("a",) * 11 + ("k",), (("a",),) * 11 + ("a",)):
            for e in (GREATEST, GREATEST_BOTH, ("order", NAMES)):
                self.assertTrue(share(e, value) == (0, size(e)))
                self.assertIsNone(rank(e, value))

    def test_prizes(self):
        pairs = (("a", 100), ("b", 50), ("c", 25), ("d", 5))
        e = ("prizes", 2, pairs)
        for (first, tickets), (second, others) in itertools.permutations(pairs, 2):
            many, total = share(e, (first, second))
            # The exact fraction: tickets of all, times the tickets of the second of those that are left.
            self.assertEqual(many * 180 * (180 - tickets), total * tickets * others)
        self.assertEqual(sum(many for _, many in outcomes(e, 12)), size(e))


class SeatsTest(ShareCase):
    def lots(self):
        for seed in range(120):
            stream = Stream(600 + seed)
            many = 1 + stream.below(12)
            votes = [0 if stream.below(5) == 0 else stream.below((10, 1000, 100001)[seed % 3]) for _ in range(many)]
            votes[stream.below(many)] += 0 if sum(votes) else 1
            yield ("seats", stream.below((5, 100, 1001)[seed // 3 % 3]), tuple(zip(NAMES, votes)))
        yield ("seats", 1000, tuple((name, 100000) for name in NAMES))
        yield ("seats", 1000, tuple((name, 100000 - at) for at, name in enumerate(NAMES)))
        yield ("seats", 999, (("a", 100000), ("b", 1), ("c", 0)))
        yield ("seats", 0, (("a", 100000), ("b", 1)))

    def test_each_name_gets_its_quota_rounded(self):
        for e in self.lots():
            _, s, pairs = e
            total = sum(votes for _, votes in pairs)
            told = outcomes(e, 13)
            self.assertIsNotNone(told)
            for outcome, _ in told:
                self.assertEqual([name for name, _ in outcome], [name for name, _ in pairs])
                self.assertEqual(sum(seats for _, seats in outcome), s)
                for (_, seats), (_, votes) in zip(outcome, pairs):
                    self.assertIn(seats, (votes * s // total, -(-votes * s // total)))

    def test_the_mean_is_the_quota(self):
        for e in self.lots():
            _, s, pairs = e
            told = outcomes(e, 13)
            self.assertEqual(sum(many for _, many in told), sum(votes for _, votes in pairs))
            for at, (_, votes) in enumerate(pairs):
                self.assertEqual(sum(outcome[at][1] * many for outcome, many in told), s * votes)

    def test_outcomes_of_numbers(self):
        for e in self.lots():
            told = outcomes(e, 13)
            start = 0
            for outcome, many in told:
                self.assertEqual((rank(e, outcome), share(e, outcome)), (start, (many, size(e))))
                for k in (start, start + many // 2, start + many - 1):
                    self.assertEqual(unrank(e, k), outcome)
                start += many
            self.assertEqual(len({outcome for outcome, _ in told}), len(told))

    def test_moved_seats(self):
        for e in self.lots():
            told = dict(outcomes(e, 13))
            for outcome in list(told)[:3]:
                for at, after in itertools.permutations(range(len(outcome)), 2):
                    moved = list(outcome)
                    moved[at] = (moved[at][0], moved[at][1] + 1)
                    moved[after] = (moved[after][0], moved[after][1] - 1)
                    self.assertEqual(share(e, tuple(moved))[0], told.get(tuple(moved), 0))
                    self.assertEqual(rank(e, tuple(moved)) is None, tuple(moved) not in told)
                if len(outcome) > 1:
                    self.assertIsNone(rank(e, outcome[::-1]))
                    self.assertIsNone(rank(e, outcome[:-1]))
                self.assertIsNone(rank(e, outcome + (("z", 0),)))
                self.assertIsNone(rank(e, outcome[:-1] + ((outcome[-1][0], outcome[-1][1] + 1),)))


class LimitTest(unittest.TestCase):
    def test_lots_that_are_too_great(self):
        for e in ALL_TOO_GREAT:
            self.assertTrue(is_lot(e))
            for o in ("a", None, DEEP, ("a",) * 12):
                self.assertRaises(LimitError, share, e, o)
                self.assertRaises(LimitError, rank, e, o)
            for most in (0, 1, 10 ** 13):
                self.assertRaises(LimitError, outcomes, e, most)

    def test_exactly_the_limit(self):
        for e in (GREATEST, GREATEST_BOTH):
            self.assertEqual(share(e, "a"), (0, 10 ** 12))
            self.assertIsNone(outcomes(e, 5))
        self.assertEqual(len(TOO_GREAT), 7)


class FormTest(unittest.TestCase):
    def test_kinds_of_values(self):
        e = ("among", ((1, ("set", 1, ("a", "b"))), (1, ("seats", 1, (("a", 2),)))))
        told = outcomes(e, 5)
        self.assertEqual(repr(told), "[(('a',), 1), (('b',), 1), ((('a', 1),), 2)]")
        self.assertEqual(repr(share(e, ("a",))), "(1, 4)")
        told.append("more")
        self.assertEqual(len(outcomes(e, 5)), 3)

    def test_answers_do_not_depend_on_earlier_calls(self):
        some = small_lots(60, Stream(25), 200)
        told = [(outcomes(e, 200), share(e, unrank(e, 0)), rank(e, "a")) for e in some]
        again = [(rank(e, "a"), share(e, unrank(e, 0)), outcomes(e, 200)) for e in reversed(some)]
        self.assertEqual([answer[::-1] for answer in reversed(again)], told)

    def test_beyond_the_limits(self):
        names = tuple("n" + str(at) for at in range(14))
        pairs = tuple((name, 101 + at) for at, name in enumerate(names))
        deep = ("seats", 1, (("a", 1), ("b", 1)))
        for _ in range(12):
            deep = ("among", ((1, ("both", (deep,))), (1, A)))
        for e in (("set", 7, names), ("draw", 3, names), ("draw", 3, ("a", "b")), ("set", 3, ("a", "b")),
                  ("set", -1, names),
                  ("draw", -1, names), ("again", -1, names), ("again", 13, ("a", "b")), ("prizes", 1, pairs[:7]),
                  ("prizes", 3, (("a", 1), ("b", 2))), ("prizes", -1, pairs[:2]), ("seats", 1001, pairs),
                  ("seats", -3, pairs), ("seats", 3, (("a", 0), ("b", 0))), ("among", ()), ("among", ((0, A), (0, A))),
                  ("among", ((1001, A),)), ("among", ((-1, A), (3, A))), ("both", ()), ("both", (A,) * 13), deep,
                  ("prizes", 1, (("a", 0), ("b", 3))), ("prizes", 2, (("a", 0), ("b", 3))), ("order", ()),
                  ("draw", 0, ()),
                  ("sure", "abcdefghij"), ("among", ((1, ("draw", 3, ("a", "b"))), (1, A))),
                  ("both", (A, ("draw", 3, ("a", "b"))))):
            for o in (unrank(e, 0), unrank(e, size(e) - 1), "a", (), None, ("a",), ("a", "b"), DEEP):
                share(e, o)
                rank(e, o)
            for most in (0, 1, 5000):
                outcomes(e, most)
        # What no number stands for is no outcome.
        e = ("among", ((1, ("draw", 3, ("a", "b"))), (1, A)))
        self.assertEqual((share(e, "a"), rank(e, "a"), outcomes(e, 5)), ((0, 0), None, []))
        self.assertEqual(outcomes(("prizes", 1, (("a", 0), ("b", 3))), 5), [(("b",), 3)])
        # Two of seats, and one more on each of twelve levels.
        self.assertEqual(len(outcomes(deep, 14)), 14)

    def test_interface(self):
        for function, names in ((share, ["e", "o"]), (rank, ["e", "o"]), (outcomes, ["e", "most"])):
            self.assertEqual(function.__module__, shares.__name__)
            self.assertEqual(list(inspect.signature(function).parameters), names)


if __name__ == "__main__":
    unittest.main()
