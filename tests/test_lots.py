"""Points 50 to 52: what a lot is, sizes, and outcomes of numbers."""

import inspect
import itertools
import unittest

from sortes import lots
from sortes.errors import LimitError, SortesError
from sortes.lots import is_lot, size, unrank
from tests.great_lots import A, GREATEST, SEATS, TOO_GREAT
from tests.plain_lots import CHARACTERS, NAMES, lot_from, plain_all, plain_size, small_lots
from tests.samples import Stream
from tests.values import DEEP, DEEP_BEHIND, STRANGE, WIDE, deep_tuple, neighbours

# One lot of each kind.
EACH_KIND = (A, ("among", ((2, A), (0, ("sure", "b")))), ("both", (A, A)), ("order", ("a", "b")),
             ("draw", 1, ("a", "b")), ("set", 1, ("a", "b")), ("again", 3, ("a", "b")),
             ("prizes", 1, (("a", 2), ("b", 3))), ("seats", 3, (("a", 2), ("b", 0))))
TEN = ("again", 1, NAMES[:10])


def nested(deep, inside=A):
    """A lot that is so deep."""
    for _ in range(deep - 1):
        inside = ("both", (inside,))
    return inside


class LotCase(unittest.TestCase):
    def check(self, expected, *values):
        # Values are not shown: some are too deep for this.
        for value in values:
            self.assertIs(is_lot(value), expected)

    def check_inside(self, expected, *values):
        """Check values by themselves and as parts of other lots."""
        for e in values:
            self.check(expected, e, ("among", ((1, e),)), ("among", ((1, A), (0, e))), ("both", (A, e)),
                       ("both", (("among", ((3, ("both", (e, A))),)), A)))


class KindsTest(LotCase):
    def test_each_kind(self):
        self.check_inside(True, *EACH_KIND)

    def test_random_lots(self):
        for seed in range(600):
            self.check(True, lot_from(Stream(seed)))

    def test_values_that_are_no_lots(self):
        for value in STRANGE:
            expected = value == A
            self.check_inside(expected, value)
            self.check(False, (value,), (value, A), ("sure", value, value), ("both", value), ("among", value))

    def test_words(self):
        for word in ("", "Sure", "sure ", "orders", "drawn", None, 0, (), ("sure",), DEEP):
            self.check_inside(False, (word, "a"), (word, ("a",)), (word, (A,)), (word, ((1, A),)),
                              (word, 1, ("a", "b")),
                              (word, 1, (("a", 1),)))

    def test_a_word_with_what_belongs_to_another(self):
        rests = {e[1:] for e in EACH_KIND}
        fitting = {"draw": ("draw", "set", "again"), "set": ("draw", "set", "again"), "again": ("again",),
                   "prizes": ("prizes", "seats"), "seats": ("seats",)}
        for e in EACH_KIND:
            for word in [other[0] for other in EACH_KIND]:
                self.check_inside(word in fitting.get(e[0], (e[0],)), (word,) + e[1:])
        self.assertEqual(len(rests), 8)

    def test_lengths(self):
        for e in EACH_KIND:
            for many in range(len(e)):
                self.check_inside(False, e[:many])
            for part in (0, 1, None, "a", (), A, ("a", "b")):
                self.check_inside(False, e + (part,), (part,) + e)

    def test_each_part_replaced_by_what_is_right_nowhere(self):
        parts = (None, -1, 10 ** 30, "", "a b", "abcdefghi", (), ((),), (None, None), DEEP, DEEP_BEHIND, WIDE)
        for e in EACH_KIND:
            for changed in neighbours(e, parts):
                if self.is_right(changed):
                    self.check(True, changed)
                else:
                    self.check(False, changed)

    def is_right(self, e):
        """Whether it is one of the few neighbours of EACH_KIND that are lots again."""
        return e in (
            A, ("among", ((2, A),)), ("among", ((2, A), (2, A), (0, ("sure", "b")))),
            ("among", ((2, A), (0, ("sure", "b")), (0, ("sure", "b")))), ("among", ((0, ("sure", "b")), (2, A))),
            ("both", (A, A)), ("both", (A,)), ("both", (A, A, A)), ("order", ("b", "a")), ("order", ("a",)),
            ("order", ("b",)), ("draw", 1, ("b", "a")), ("draw", 1, ("a",)), ("draw", 1, ("b",)),
            ("set", 1, ("b", "a")), ("set", 1, ("a",)), ("set", 1, ("b",)), ("again", 3, ("b", "a")),
            ("again", 3, ("a",)), ("again", 3, ("b",)), ("prizes", 1, (("b", 3), ("a", 2))), ("prizes", 1, (("a", 2),)),
            ("prizes", 1, (("b", 3),)), ("seats", 3, (("b", 0), ("a", 2))), ("seats", 3, (("a", 2),)),
        )


class NamesTest(LotCase):
    def with_names(self, *names):
        """Each kind of lot with just these names, as often as the kind has names."""
        some = [("order", names)] + [(kind, 1, names) for kind in ("draw", "set", "again")]
        some.append(("seats", 1, tuple((name, 1) for name in names)))
        if len(names) <= 5:
            some.append(("prizes", 1, tuple((name, 1) for name in names)))
        return some + ([("sure", names[0])] if len(names) == 1 else [])

    def test_characters(self):
        for number in range(128):
            x = chr(number)
            self.check(x in CHARACTERS, *self.with_names(x), *self.with_names("a" + x), *self.with_names("b", x + "7a"))
        self.check(False, *self.with_names("\u00e9"), *self.with_names("\u0664"), *self.with_names("\u00b2"))

    def test_lengths(self):
        for many in range(12):
            self.check(1 <= many <= 8, *self.with_names("x" * many), *self.with_names("a", "7" * many))

    def test_names_that_are_words_or_numbers(self):
        self.check(True, *self.with_names("sure", "among", "order", "both"), *self.with_names("0", "00", "1", "01"))

    def test_doubled(self):
        self.check(False, *self.with_names("a", "a"), *self.with_names("a", "b", "c", "a"),
                   *self.with_names("ab", "ab", "c"))
        self.check(True, *self.with_names("a", "A"), *self.with_names("a", "aa"))

    def test_none(self):
        self.check(False, *self.with_names(), ("both", ()), ("among", ()), ("draw", 0, ()), ("set", 0, ()),
                   ("again", 0, ()), ("prizes", 0, ()), ("seats", 0, ()))

    def test_no_strings(self):
        for value in (None, 0, 1, (), ("a",), (("a",),), DEEP, WIDE):
            self.check(False, ("sure", value), *self.with_names(value, "a"), *self.with_names("a", value))

    def test_a_string_is_no_tuple_of_names(self):
        self.check(False, ("order", "ab"), ("draw", 1, "ab"), ("set", 1, "ab"), ("again", 1, "ab"), ("both", "ab"),
                   ("among", "ab"), ("prizes", 1, "ab"), ("seats", 1, "ab"), ("prizes", 1, ("a1", "b2")))


class EntriesTest(LotCase):
    def test_twelve_and_thirteen(self):
        for many in (1, 11, 12, 13, 14, 500):
            names = tuple("n" + str(at) for at in range(many))
            small = many <= 12
            self.check(small, ("order", names), ("draw", 1, names), ("set", 1, names), ("again", 1, names),
                       ("seats", 1, tuple((name, 1) for name in names)), ("both", (A,) * many),
                       ("among", ((1, A),) * many), ("among", ((0, A),) * (many - 1) + ((1, A),)))

    def test_five_prizes_and_six(self):
        for many in range(14):
            pairs = tuple((name, 1) for name in (NAMES * 2)[:many])
            self.check(1 <= many <= 5, ("prizes", 0, pairs), ("prizes", min(many, 1), pairs))

    def test_thirty_lots_and_one_more(self):
        # A lot of both with eleven sures has twelve lots in it, with itself.
        twelve = ("both", (A,) * 11)
        self.check(True, ("both", (twelve, twelve, A, A, A, A, A)))
        self.check(False, ("both", (twelve, twelve, A, A, A, A, A, A)))
        for last, right in (((1, A), True), ((0, A), True), ((1, ("both", (A,))), False), ((0, ("both", (A,))), False)):
            pairs = ((1, twelve), (0, twelve), (1, A), (0, A), (0, A), (3, A), last)
            self.check(right, ("among", pairs))
        # Equal ones count each time, and lots of prizes count once.
        prizes = ("prizes", 5, tuple((name, 1) for name in "abcde"))
        self.check(True, ("both", (("both", (prizes,) * 12), ("both", (prizes,) * 12), prizes, prizes, prizes)))
        self.check(False, ("both", (("both", (prizes,) * 12), ("both", (prizes,) * 12), prizes, prizes, prizes, A)))

    def test_lots_in_a_row_of_levels(self):
        for many in (27, 28, 29, 30, 31, 32, 60):
            # Level by level: 1, 1, 1, 3 and the others.
            first = min(12, many - 6)
            second = min(12, many - 6 - first)
            third = many - 6 - first - second
            if third <= 12:
                inner = tuple(("both", (A,) * some) if some else A for some in (first, second, third))
                self.check(many <= 30, ("both", (("among", ((1, ("both", inner)),)),)))

    def test_deep(self):
        for many in range(1, 12):
            self.check(many <= 6, nested(many))
            for e in EACH_KIND:
                more = 1 if e[0] in ("among", "both") else 0
                self.check(many + more <= 6, nested(many, e), nested(many, ("among", ((1, A), (0, e))))[1][0]
                           if many > 1 else e)
            # The deepest lot in it counts, also one with the weight 0.
            self.check(many <= 5, ("among", ((1, A), (0, nested(many)))), ("both", (A, nested(many), A)))
        self.check(False, nested(100000), deep_tuple(100000, A), ("both", (A, DEEP_BEHIND)), WIDE)

    def test_many_and_deep_at_once(self):
        wide = ("both", (A,) * 12)
        self.check(True, ("both", (wide, nested(5))))
        self.check(False, ("both", (wide, wide, nested(5))))
        self.check(False, ("both", (wide, nested(6))))


class NumbersTest(LotCase):
    def check_range(self, make, low, high):
        for number in (low, low + 1, (low + high) // 2, high - 1, high):
            self.check_inside(True, make(number))
        for number in (low - 1, high + 1, -10 ** 20, 10 ** 20, None, "", "1", (), (1,), DEEP):
            self.check_inside(False, make(number))

    def test_weights(self):
        self.check_range(lambda w: ("among", ((w, A), (1, A))), 0, 1000)
        self.check_range(lambda w: ("among", ((1, A), (w, A))), 0, 1000)
        self.check_range(lambda w: ("among", ((w, A),)), 1, 1000)

    def test_tickets(self):
        self.check_range(lambda tickets: ("prizes", 1, (("a", tickets),)), 1, 100)
        self.check_range(lambda tickets: ("prizes", 0, (("a", 1), ("b", tickets))), 1, 100)

    def test_votes(self):
        self.check_range(lambda votes: ("seats", 1, (("a", votes), ("b", 1))), 0, 100000)
        self.check_range(lambda votes: ("seats", 0, (("a", 1), ("b", votes))), 0, 100000)
        self.check_range(lambda votes: ("seats", 0, (("a", votes),)), 1, 100000)

    def test_all_are_zero(self):
        for many in range(1, 13):
            self.check(False, ("among", ((0, A),) * many))
            self.check(True, ("among", ((0, A),) * (many - 1) + ((1, A),)))
            pairs = tuple((name, 0) for name in NAMES[:many])
            self.check(False, ("seats", 1, pairs), ("seats", 0, pairs))
            self.check(True, ("seats", 1, pairs[:-1] + (("z", 1),)))

    def test_how_many_are_drawn(self):
        for many in range(1, 13):
            names = NAMES[:many]
            for kind in ("draw", "set"):
                for s in range(-2, 15):
                    self.check(0 <= s <= many, (kind, s, names))
            for s in range(-2, 15):
                self.check(0 <= s <= 12, ("again", s, names))
                if many <= 5:
                    self.check(0 <= s <= many, ("prizes", s, tuple((name, 1) for name in names)))
        self.check_range(lambda s: ("draw", s, NAMES), 0, 12)
        self.check_range(lambda s: ("set", s, NAMES), 0, 12)
        self.check_range(lambda s: ("again", s, ("a", "b")), 0, 12)
        self.check_range(lambda s: ("prizes", s, tuple((name, 1) for name in NAMES[:5])), 0, 5)

    def test_seats(self):
        self.check_range(lambda s: ("seats", s, (("a", 1),)), 0, 1000)

    def test_pairs(self):
        for pair in ((), (1,), (1, A, A), (A, 1), 1, None, "a", A, (1, "a"), (1, None), (1, (1, A)), DEEP):
            self.check_inside(False, ("among", (pair,)), ("among", ((1, A), pair)))
        for pair in ((), ("a",), ("a", 1, 1), (1, "a"), 1, None, "a", "a1", ("a", "a"), ("a", None), (("a", 1),), DEEP):
            for kind in ("prizes", "seats"):
                self.check_inside(False, (kind, 1, (pair,)), (kind, 1, (("b", 1), pair)))


class SizeTest(unittest.TestCase):
    def check(self, expected, e):
        self.assertEqual(size(e), expected, e)
        self.assertIs(type(size(e)), int)

    def test_known_sizes(self):
        self.check(1, A)
        self.check(5, ("among", ((2, A), (3, A))))
        self.check(60, ("among", ((2, ("order", ("a", "b", "c"))), (3, ("seats", 1, (("a", 4),))))))
        self.check(24, ("both", (("order", ("a", "b", "c")), ("seats", 1, (("a", 4),)), A)))
        self.check(479001600, ("order", NAMES))
        self.check(60, ("draw", 3, NAMES[:5]))
        self.check(10, ("set", 3, NAMES[:5]))
        self.check(125, ("again", 3, NAMES[:5]))
        self.check(8000, ("seats", 1000, (("a", 5000), ("b", 0), ("c", 3000))))

    def test_sizes_of_draws_of_none_and_all(self):
        for many in range(1, 13):
            names = NAMES[:many]
            for kind in ("draw", "set", "again"):
                self.check(1, (kind, 0, names))
            self.check(size(("order", names)), ("draw", many, names))
            self.check(1, ("set", many, names))
            self.check(1, ("again", 12, names[:1]))

    def test_weights_that_are_zero_and_common_multiples(self):
        four, six = ("seats", 1, (("a", 4),)), ("order", ("a", "b", "c"))
        self.check(24, ("among", ((1, four), (1, six))))
        self.check(4, ("among", ((1, four), (0, six))))
        self.check(6, ("among", ((0, four), (1, six))))
        self.check(36, ("among", ((1, six), (2, six), (3, A))))
        self.check(7, ("among", ((0, four), (7, A), (0, six))))

    def test_prizes(self):
        pairs = (("a", 1), ("b", 2), ("c", 3))
        self.check(1, ("prizes", 0, pairs))
        self.check(6, ("prizes", 1, pairs))
        # Behind a 5, behind b 4, behind c 3 tickets are left: 6 times 60.
        self.check(360, ("prizes", 2, pairs))
        self.check(360, ("prizes", 2, pairs[::-1]))
        # The last one wins whatever its tickets are, but they still count: behind a there are 5 times 6 numbers,
        # behind b 4 times 3, behind c 3 times 2; 6 times 60.
        self.check(360, ("prizes", 3, pairs))
        self.check(2, ("prizes", 1, (("a", 2),)))

    def test_like_the_plain_reckoning(self):
        for seed in range(800):
            e = lot_from(Stream(1000 + seed), 4)
            if plain_size(e) <= 10 ** 12:
                self.check(plain_size(e), e)

    def test_exactly_the_limit(self):
        self.check(10 ** 12, GREATEST)
        self.check(10 ** 12, ("both", (TEN,) * 12))
        self.check(10 ** 12, ("both", (A, GREATEST, A)))
        self.check(10 ** 12, ("among", ((0, A), (1, GREATEST), (0, GREATEST))))
        self.check(10 ** 12, ("among", ((500, ("both", (TEN,) * 9)), (500, A))))
        self.check(1, ("among", ((1, A), (0, GREATEST))))


class LimitTest(unittest.TestCase):
    def check(self, *values):
        for e in values:
            with self.assertRaises(LimitError):
                size(e)
            for k in (0, 1, -1, 10 ** 12):
                with self.assertRaises(LimitError):
                    unrank(e, k)

    def test_kinds(self):
        for e in TOO_GREAT:
            self.assertTrue(is_lot(e))
            self.assertGreater(plain_size(e), 10 ** 12)
        self.assertEqual(plain_size(SEATS), 1010000000000)
        self.check(*TOO_GREAT, ("both", (("order", ("a", "b")), GREATEST)), ("both", (("order", NAMES),) * 12),
                   ("among", ((1, GREATEST), (1, A))))

    def test_one_above_the_limit(self):
        # 73 times 137 times 99990001 is 10 ** 12 + 1.
        self.check(("among", ((73, ("both", (("seats", 1, (("a", 137),)), ("seats", 0, (("a", 99990001),))))),)))
        self.assertEqual(size(("both", (("seats", 1, (("a", 137),)), ("seats", 0, (("a", 99990001),))))),
                         137 * 99990001)

    def test_common_multiples(self):
        # Each size is below 10 ** 6, the least common multiple of all of them is above 10 ** 12.
        primes = (99991, 99989, 99971, 99961)
        parts = [("seats", 1, (("a", p),)) for p in primes]
        self.check(("among", tuple((1, part) for part in parts)))
        self.assertEqual(size(("among", tuple((1, part) for part in parts[:2]))), 2 * 99991 * 99989)

    def test_prizes(self):
        pairs = (("a", 97), ("b", 89), ("c", 83), ("d", 79), ("e", 73))
        self.assertGreater(plain_size(("prizes", 3, pairs)), 10 ** 12)
        self.check(("prizes", 3, pairs), ("prizes", 4, pairs), ("prizes", 5, pairs))

    def test_lots_within(self):
        for great in TOO_GREAT:
            never = ("among", ((1, A), (0, great)))
            self.check(("both", (great,)), ("both", (A, great)), ("among", ((1, great),)), never,
                       ("among", ((0, great), (1, A))), ("among", ((1, A), (0, ("both", (never,))))))

    def test_does_not_compute_much_greater_numbers(self):
        # As a whole this would be a number with millions of digits.
        e = TOO_GREAT[0]
        for _ in range(5):
            e = ("both", (e,) * 12)
        self.check(e, ("again", 1000, NAMES))

    def test_kind_of_error(self):
        self.assertTrue(issubclass(LimitError, SortesError))


class UnrankTest(unittest.TestCase):
    def check(self, expected, e):
        """Check all outcomes in order."""
        self.assertEqual(size(e), len(expected), e)
        self.assertEqual([unrank(e, k) for k in range(len(expected))], expected, e)
        self.assertEqual(plain_all(e), expected, e)

    def test_sure(self):
        self.check(["a"], A)
        self.check(["Zz9"], ("sure", "Zz9"))

    def test_among(self):
        self.check(["a", "a", "b", "b", "b"], ("among", ((2, A), (3, ("sure", "b")))))
        self.check(["b", "c"], ("among", ((0, A), (1, ("sure", "b")), (0, A), (1, ("sure", "c")), (0, A))))
        order, three = ("order", ("a", "b")), ("draw", 1, ("x", "y", "z"))
        ab, ba = ("a", "b"), ("b", "a")
        self.check([ab, ba] * 3 + [("x",), ("y",), ("z",)] * 2, ("among", ((1, order), (1, three))))
        self.check([ab, ba] * 6 + [("x",), ("y",), ("z",)] * 2, ("among", ((2, order), (1, three))))
        # The size of a lot with the weight 0 does not count.
        self.check([ab, ba], ("among", ((0, three), (1, order))))

    def test_both(self):
        e = ("both", (("draw", 1, ("a", "b")), A, ("draw", 1, ("x", "y", "z"))))
        self.check([((x,), "a", (y,)) for x in "ab" for y in "xyz"], e)
        self.check([("a",)], ("both", (A,)))
        self.check([(("a",), ("a",))], ("both", (("both", (A,)), ("both", (A,)))))

    def test_order(self):
        self.check([("b", "a", "c"), ("b", "c", "a"), ("a", "b", "c"), ("a", "c", "b"), ("c", "b", "a"),
                    ("c", "a", "b")],
                   ("order", ("b", "a", "c")))
        self.check([("x",)], ("order", ("x",)))

    def test_draw(self):
        self.check([("b", "a"), ("b", "c"), ("a", "b"), ("a", "c"), ("c", "b"), ("c", "a")],
                   ("draw", 2, ("b", "a", "c")))
        self.check([()], ("draw", 0, ("b", "a", "c")))

    def test_set(self):
        self.check([("d", "a"), ("d", "c"), ("d", "b"), ("a", "c"), ("a", "b"), ("c", "b")],
                   ("set", 2, ("d", "a", "c", "b")))
        self.check([()], ("set", 0, ("a", "b")))
        self.check([("b", "a")], ("set", 2, ("b", "a")))

    def test_again(self):
        self.check([("b", "b"), ("b", "a"), ("a", "b"), ("a", "a")], ("again", 2, ("b", "a")))
        self.check([()], ("again", 0, ("b", "a")))
        self.check([("a",) * 12], ("again", 12, ("a",)))

    def test_prizes(self):
        self.check([()], ("prizes", 0, (("a", 1), ("b", 2))))
        self.check([("a",), ("b",), ("b",)], ("prizes", 1, (("a", 1), ("b", 2))))
        # Behind a there are two numbers for b, behind b one for a; two numbers each.
        self.check([("a", "b")] * 2 + [("b", "a")] * 4, ("prizes", 2, (("a", 1), ("b", 2))))
        pairs = (("a", 1), ("b", 2), ("c", 3))
        expected = ([("a", "b")] * 2 + [("a", "c")] * 3) * 12 + ([("b", "a")] + [("b", "c")] * 3) * 30
        expected += ([("c", "a")] + [("c", "b")] * 2) * 60
        self.check(expected, ("prizes", 2, pairs))

    def test_seats(self):
        # The quotas are 3 times 2, 0 and 3 fifths: 1 and 1 fifth, 0, 1 and 4 fifths.
        one, two = (("a", 1), ("b", 0), ("c", 2)), (("a", 2), ("b", 0), ("c", 1))
        self.check([one] * 4 + [two], ("seats", 3, (("a", 2), ("b", 0), ("c", 3))))
        self.check([(("a", 0), ("b", 0))] * 3, ("seats", 0, (("a", 1), ("b", 2))))
        self.check([(("a", 0), ("b", 1)), (("a", 0), ("b", 1)), (("a", 1), ("b", 0))],
                   ("seats", 1, (("a", 1), ("b", 2))))
        self.check([(("a", 1000), ("b", 0))], ("seats", 1000, (("a", 1), ("b", 0))))
        self.check([(("a", 0), ("b", 1000))], ("seats", 1000, (("a", 0), ("b", 1))))

    def test_all_numbers_of_random_lots(self):
        for e in small_lots(500, Stream(7), 300):
            self.check(plain_all(e), e)

    def test_some_numbers_of_greater_lots(self):
        for e in small_lots(150, Stream(8), 30000):
            expected = plain_all(e)
            for k in {0, len(expected) - 1, *range(0, len(expected), 1 + len(expected) // 20)}:
                self.assertEqual(unrank(e, k), expected[k], (e, k))

    def test_great_sizes(self):
        self.assertEqual(unrank(GREATEST, 123456789012), tuple("bcdefghijabc"))
        self.assertEqual(unrank(("both", (TEN,) * 12), 10 ** 12 - 1), (("j",),) * 12)
        self.assertEqual(unrank(("order", NAMES), 479001599), NAMES[::-1])
        self.assertEqual(unrank(("among", ((500, ("both", (TEN,) * 9)), (500, A))), 5 * 10 ** 11), "a")
        self.assertEqual(unrank(("among", ((500, ("both", (TEN,) * 9)), (500, A))), 5 * 10 ** 11 - 1), (("j",),) * 9)
        for s in range(13):
            sets = list(itertools.combinations(NAMES, s))
            for k in (0, len(sets) // 2, len(sets) // 3, len(sets) - 1):
                self.assertEqual(unrank(("set", s, NAMES), k), sets[k])
        five = ("prizes", 5, tuple((name, tickets) for name, tickets in zip("abcde", (1, 2, 3, 4, 5))))
        self.assertEqual(unrank(five, 0), tuple("abcde"))
        self.assertEqual(unrank(five, size(five) - 1), tuple("edcba"))

    def test_seats_of_great_parties(self):
        pairs = (("a", 100000), ("b", 1), ("c", 99999), ("d", 0))
        self.assertEqual(unrank(("seats", 1000, pairs), 0), (("a", 500), ("b", 0), ("c", 500), ("d", 0)))
        self.assertEqual(unrank(("seats", 1000, pairs), 199999), (("a", 500), ("b", 1), ("c", 499), ("d", 0)))


class FormTest(unittest.TestCase):
    def test_kinds_of_values(self):
        self.assertEqual(repr(unrank(("both", (A, ("seats", 2, (("a", 1),)), ("draw", 0, ("a",)))), 0)),
                         "('a', (('a', 2),), ())")

    def test_answers_do_not_depend_on_earlier_calls(self):
        some = small_lots(60, Stream(9), 500)
        told = [(size(e), [unrank(e, k) for k in range(0, size(e), 17)]) for e in some]
        again = [([unrank(e, k) for k in range(0, size(e), 17)], size(e)) for e in reversed(some)]
        self.assertEqual([pair[::-1] for pair in reversed(again)], told)

    def test_beyond_the_limits(self):
        names = tuple("n" + str(at) for at in range(14))
        pairs = tuple((name, 101 + at) for at, name in enumerate(names))
        for e in (("set", 7, names), ("draw", 3, names), ("draw", 3, ("a", "b")), ("set", 3, ("a", "b")),
                  ("set", -1, names),
                  ("draw", -1, names), ("again", -1, names), ("again", 13, ("a", "b")), ("prizes", 1, pairs[:7]),
                  ("prizes", 3, (("a", 1), ("b", 2))), ("prizes", -1, pairs[:2]), ("seats", 1001, pairs),
                  ("seats", -3, pairs), ("seats", 3, (("a", 0), ("b", 0))), ("among", ()), ("among", ((0, A), (0, A))),
                  ("among", ((1001, A),)), ("among", ((-1, A), (3, A))), ("both", ()), ("both", (A,) * 13), nested(9),
                  ("order", ()), ("draw", 0, ()), ("sure", "abcdefghij"), ("sure", ""),
                  ("among", ((1, ("draw", 3, ("a", "b"))), (1, A))), ("both", (A, ("draw", 3, ("a", "b"))))):
            total = size(e)
            for k in (0, total - 1, total, -1, 10 ** 20):
                unrank(e, k)

    def test_interface(self):
        for function, names in ((is_lot, ["value"]), (size, ["e"]), (unrank, ["e", "k"])):
            self.assertEqual(function.__module__, lots.__name__)
            self.assertEqual(list(inspect.signature(function).parameters), names)


if __name__ == "__main__":
    unittest.main()
