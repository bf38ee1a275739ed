"""Point 28: turning, and what of point 27 rests on it."""

import inspect
import itertools
import unittest

from sortes import turning
from sortes.dealing import board_of, play, seen
from sortes.opening import numbers
from sortes.turning import turned
from tests.plain import parties
from tests.plays import NO_FOES, SMALL, TAPES, script_from, setup_from, tape_length, tapes_from
from tests.samples import Stream


def fitted(setup, tape):
    """The tape with just as many numbers as m polynomials need."""
    return (tape + (0,) * tape_length(setup))[:tape_length(setup)]


def plain_turned(setup, tapes, foes, a, d):
    """The turning with Q worked out coefficient by coefficient."""
    p, _, t, _ = setup
    turner = min(set(parties(setup)) - set(foes))
    after = [list(fitted(setup, tape)) for tape in tapes]
    at_zero = 1
    for c in foes:
        at_zero = at_zero * c * c % p
    # The coefficient of x to the j is, but for its sign, the sum of all products of all but j foes.
    parts = [0] * (t + 1)
    for many in range(len(foes) + 1):
        for chosen in itertools.combinations(foes, len(foes) - many):
            sign = 1
            for c in chosen:
                sign *= -c
            parts[many] += sign
    places = [(j, k) for j in range(t + 1) for k in range(j, t + 1)]
    for at, (j, k) in enumerate(places):
        index = a * len(places) + at
        after[turner - 1][index] = (after[turner - 1][index] + d * pow(at_zero, -1, p) * parts[j] * parts[k]) % p
    return tuple(tuple(tape) for tape in after)


class KnownTest(unittest.TestCase):
    def test_no_foes(self):
        # Q is 1, and only the constant coefficient is moved.
        self.assertEqual(turned(SMALL, TAPES, NO_FOES, 0, 5), ((6, 2, 3), (0, 0, 0), (0, 0, 0), (0, 0, 0)))
        self.assertEqual(turned((11, 1, 0, 2), ((7, 8),), NO_FOES, 1, 4), ((7, 1),))

    def test_one_foe(self):
        # Q is (x - 4)(y - 4) = 16 - 4 x - 4 y + x y, and 5 divided by 16 is 1.
        self.assertEqual(turned(SMALL, TAPES, ((4,), ()), 0, 5), ((6, 9, 4), (0, 0, 0), (0, 0, 0), (0, 0, 0)))
        # Q is (x - 1)(y - 1) = 1 - x - y + x y, and the party 2 is the least that is no foe.
        self.assertEqual(turned(SMALL, TAPES, ((1,), ()), 0, 3), ((1, 2, 3), (3, 8, 3), (0, 0, 0), (0, 0, 0)))

    def test_two_foes(self):
        # (x - 1)(x - 2) is 2 - 3 x + x x, and Q's value at 0, 0 is 4.
        tapes = turned((31, 7, 2, 1), ((),) * 7, ((1, 2), ()), 0, 4)
        self.assertEqual(tapes[2], (4, 25, 2, 9, 28, 1))
        self.assertEqual(tapes[:2] + tapes[3:], ((0,) * 6,) * 6)

    def test_fewer_foes_than_there_may_be(self):
        # (x - 7)(y - 7) with the value 49 = 18 at 0, 0; nothing with x x or y y.
        tapes = turned((31, 7, 2, 1), ((),) * 7, ((7,), ()), 0, 18)
        self.assertEqual(tapes[0], (18, 24, 0, 1, 0, 0))

    def test_each_number_has_its_place_on_the_tape(self):
        setup = (11, 4, 1, 3)
        tape = (1, 2, 3, 4, 5, 6, 7, 8, 9)
        for a in range(3):
            moved = list(tape)
            for at, v in enumerate((5, 7, 1)):
                moved[3 * a + at] = (moved[3 * a + at] + v) % 11
            self.assertEqual(turned(setup, (tape, (), (), ()), ((4,), ()), a, 5)[0], tuple(moved))


class TurnedTest(unittest.TestCase):
    """Plays with any script, before and after a turning."""

    def cases(self, many, seed):
        for at in range(many):
            stream = Stream(seed + at)
            setup = setup_from(stream)
            yield stream, setup, tapes_from(stream, setup), script_from(stream, setup)

    def test_like_the_plain_reckoning(self):
        kinds = set()
        for stream, setup, tapes, script in self.cases(200, 100):
            a, d = stream.below(setup[3]), stream.below(3 * setup[0]) - setup[0]
            found = turned(setup, tapes, script, a, d)
            self.assertEqual(found, plain_turned(setup, tapes, script[0], a, d), (setup, tapes, script, a, d))
            kinds.add((len(script[0]), 1 in script[0]))
        self.assertEqual(kinds, {(0, False), (1, False), (1, True), (2, False), (2, True)})

    def test_tapes_are_cut_or_filled_up(self):
        lengths = set()
        for stream, setup, tapes, script in self.cases(60, 1000):
            found = turned(setup, tapes, script, stream.below(setup[3]), 1 + stream.below(setup[0] - 1))
            turner = min(set(parties(setup)) - set(script[0]))
            for i in parties(setup):
                self.assertEqual(len(found[i - 1]), tape_length(setup))
                if i != turner:
                    self.assertEqual(found[i - 1], fitted(setup, tapes[i - 1]))
                lengths.add((i in script[0], (len(tapes[i - 1]) > tape_length(setup))))
        self.assertEqual(len(lengths), 4)

    def test_turning_by_nothing(self):
        for stream, setup, tapes, script in self.cases(40, 2000):
            told = tuple(fitted(setup, tape) for tape in tapes)
            for d in (0, setup[0], -setup[0], 7 * setup[0]):
                self.assertEqual(turned(setup, tapes, script, stream.below(setup[3]), d), told)

    def test_d_is_any_integer(self):
        for stream, setup, tapes, script in self.cases(40, 3000):
            p = setup[0]
            a, d = stream.below(setup[3]), stream.below(p)
            told = turned(setup, tapes, script, a, d)
            for other in (d - p, d + p, d - 1000 * p, d + 10 ** 20 * p):
                self.assertEqual(turned(setup, tapes, script, a, other), told)

    def test_turning_back(self):
        for stream, setup, tapes, script in self.cases(40, 4000):
            a, d = stream.below(setup[3]), stream.below(setup[0] + 1)
            there = turned(setup, tapes, script, a, d)
            told = tuple(fitted(setup, tape) for tape in tapes)
            self.assertEqual(turned(setup, there, script, a, setup[0] - d), told)
            self.assertEqual(turned(setup, there, script, a, -d), told)

    def test_the_drawn_number_moves_and_no_other_one(self):
        for stream, setup, tapes, script in self.cases(80, 5000):
            p, m = setup[0], setup[3]
            told = numbers(setup, board_of(play(setup, tapes, script)))
            a, d = stream.below(m), stream.below(p)
            moved = list(told)
            moved[a] = (moved[a] + d) % p
            after = play(setup, turned(setup, tapes, script, a, d), script)
            self.assertEqual(numbers(setup, board_of(after)), tuple(moved), (setup, tapes, script, a, d))

    def test_the_foes_see_the_same_up_to_round_7(self):
        some = 0
        for stream, setup, tapes, script in self.cases(80, 6000):
            a, d = stream.below(setup[3]), 1 + stream.below(setup[0] - 1)
            before = play(setup, tapes, script)
            after = play(setup, turned(setup, tapes, script, a, d), script)
            self.assertEqual(seen(after, script[0], 7), seen(before, script[0], 7), (setup, tapes, script, a, d))
            some += len(seen(before, script[0], 7)) > 0
            # Whoever is no foe sees, in the end, that another number is drawn.
            self.assertNotEqual(board_of(after), board_of(before))
        self.assertGreater(some, 20)

    def test_each_number_comes_for_one_tape_of_a_class(self):
        for stream, setup, tapes, script in self.cases(15, 7000):
            p, m = setup[0], setup[3]
            if p > 31:
                continue
            a = stream.below(m)
            row = [turned(setup, tapes, script, a, d) for d in range(p)]
            drawn = [numbers(setup, board_of(play(setup, some, script)))[a] for some in row]
            self.assertEqual(sorted(drawn), list(range(p)))
            # Whichever tapes of the class one begins with, it is the same class.
            start = row[stream.below(p)]
            self.assertEqual({turned(setup, start, script, a, d) for d in range(p)}, set(row))

    def test_all_numbers_at_once(self):
        setup = (11, 4, 1, 2)
        tapes = tuple(Stream(i).numbers(11, 6) for i in range(4))
        script = ((2,), (((1, 2, 1, 0, 0), ("add", 1)), ((5, 2, 0, 1), ("is", 1)),
                         ((8, 2, 0, 1), ("copy", (8, 1, 0, 0)))))
        drawn = set()
        for d in range(11):
            first = turned(setup, tapes, script, 0, d)
            for c in range(11):
                both = turned(setup, first, script, 1, c)
                self.assertEqual(turned(setup, turned(setup, tapes, script, 1, c), script, 0, d), both)
                drawn.add(numbers(setup, board_of(play(setup, both, script))))
        self.assertEqual(len(drawn), 121)

    def test_six_numbers(self):
        setup = (13, 7, 2, 6)
        tapes = tuple(Stream(i).numbers(13, 50) for i in range(7))
        script = ((1, 4), (((1, 4, 2, 5, 2), ("drop",)), ((8, 1, 0, 3), ("add", 4))))
        told = numbers(setup, board_of(play(setup, tapes, script)))
        for a in range(6):
            found = turned(setup, tapes, script, a, 5)
            self.assertEqual(found, plain_turned(setup, tapes, (1, 4), a, 5))
            moved = tuple((v + 5) % 13 if at == a else v for at, v in enumerate(told))
            self.assertEqual(numbers(setup, board_of(play(setup, found, script))), moved)


class FormTest(unittest.TestCase):
    def test_rules_of_the_script_do_not_count(self):
        rules = (((8, 4, 0, 0), ("add", 1)), ((1, 4, 1, 0, 0), ("drop",)))
        self.assertEqual(turned(SMALL, TAPES, ((4,), rules), 0, 5), turned(SMALL, TAPES, ((4,), ()), 0, 5))

    def test_kinds_of_values(self):
        found = turned(SMALL, ((), (1,), (2, 3, 4, 5), (6, 7, 8)), ((1,), ()), 0, -20)
        self.assertIs(type(found), tuple)
        self.assertEqual(len(found), 4)
        for tape in found:
            self.assertIs(type(tape), tuple)
            self.assertEqual({type(number) for number in tape}, {int})
            self.assertTrue(all(0 <= number < 11 for number in tape))

    def test_answers_do_not_depend_on_earlier_calls(self):
        told = [turned(SMALL, TAPES, ((j,), ()), 0, d) for j in range(1, 5) for d in range(11)]
        again = [turned(SMALL, TAPES, ((j,), ()), 0, d) for j in range(4, 0, -1) for d in range(10, -1, -1)]
        self.assertEqual(told, again[::-1])

    def test_beyond_the_limits(self):
        for foes in ((1, 2), (1, 2, 3, 4), (9,), (4, 4, 4)):
            for a in (-9, -1, 0, 1, 5):
                found = turned(SMALL, TAPES, (foes, ()), a, 3)
                self.assertEqual([len(tape) for tape in found], [3] * 4)
        turned((11, 12, 3, 8), ((20, 30),) * 12, ((11, 12), ()), 7, 3)

    def test_interface(self):
        self.assertEqual(turned.__module__, turning.__name__)
        self.assertEqual(list(inspect.signature(turned).parameters), ["setup", "tapes", "script", "a", "d"])


if __name__ == "__main__":
    unittest.main()
