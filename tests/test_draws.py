"""Points 60 to 64: draws, and the main theorem; and what of the points 4, 21, 26, 28 and 30 it rests on, with tapes of
any length, up to six numbers, and any board."""

import inspect
import itertools
import unittest

from sortes import draws
from sortes.dealing import board_of, play, seen
from sortes.drawing import counts, drawn, needed, void_count
from sortes.draws import aimed, draw, fits, is_outcome, result
from sortes.errors import LimitError
from sortes.opening import blame, numbers, outs
from sortes.referee import is_drawn, is_script
from sortes.shares import outcomes
from sortes.turning import turned
from tests.great_lots import A, ALL_TOO_GREAT
from tests.plain import PlainBoard, PlainPlay, addresses, parties
from tests.plain_lots import NAMES, plain_all, small_lots
from tests.plays import (NO_FOES, SMALL, TAPES, attack_from, change_from, changed_board, script_from, tape_length,
                         without)
from tests.samples import PRIMES, Stream
from tests.values import DEEP, DEEP_BEHIND, STRANGE, neighbours

THREE = ("draw", 1, ("x", "y", "z"))
# Setups of any size, with as many foes as there may be, but for the number of drawn numbers.
SIZES = ((1, 0), (2, 0), (3, 0), (4, 1), (5, 1), (6, 1), (7, 2))
# A foe that lies to others, says that it is unhappy, tells a wrong share, and repeats what others have said.
RULES = (((1, 4, 1, 0, 0), ("add", 3)), ((1, 4, 2, 0, 1), ("copy", (1, 1, 4, 0, 0))), ((3, 4, 0, 2, 1), ("is", 7)),
         ((5, 4, 0, 1), ("is", 1)), ((7, 4, 0, 2), ("is", 1)), ((8, 4, 0, 0), ("copy", (8, 1, 0, 0))),
         ((8, 4, 0, 0), ("add", 5)))


def any_tapes(stream, setup):
    """Tapes of any length: none, too short, just long enough, and much longer."""
    length = tape_length(setup)
    lengths = (0, 1, length // 2, length - 1, length, length + 1, 2 * length + 7)
    return tuple(stream.numbers(setup[0], lengths[stream.below(7)]) for _ in parties(setup))


def cases(many, seed):
    """Plays with up to six numbers, with tapes of any length, with any script or an attack."""
    for at in range(many):
        stream = Stream(seed + at)
        n, t = SIZES[stream.below(7)]
        setup = (PRIMES[stream.below(5)], n, t, 1 + at % 6)
        script = attack_from(stream, setup) if t and stream.below(2) else script_from(stream, setup)
        yield stream, setup, any_tapes(stream, setup), script


def fitting(stream, setup, some):
    """Those of some lots that fit a setup, with the numbers of attempts."""
    return [(e, attempts) for e in some for attempts in (1, 2, 3, 4) if fits(setup, e, attempts)]


class FitsTest(unittest.TestCase):
    def test_known_answers(self):
        # Two numbers modulo 11 for each attempt.
        e = ("again", 5, ("a", "b"))
        for m in range(1, 7):
            for attempts in range(-2, 8):
                self.assertIs(fits((11, 4, 1, m), e, attempts), attempts in (1, 2, 3) and m == 2 * attempts)

    def test_attempts_from_1_to_4(self):
        for attempts in (-(10 ** 20), -1, 0, 1, 2, 3, 4, 5, 6, 7, 10 ** 20):
            for m in range(1, 7):
                self.assertIs(fits((11, 1, 0, m), A, attempts), 1 <= attempts <= 4 and attempts == m)
        # Five attempts with one number each are too many, even where m is 5.
        self.assertIs(fits((11, 1, 0, 5), A, 5), False)
        self.assertIs(fits((11, 1, 0, 0), A, 0), False)

    def test_random_lots(self):
        right = 0
        for e in small_lots(100, Stream(41), 10 ** 6):
            for p in PRIMES:
                for m in range(1, 7):
                    for attempts in range(6):
                        expected = 1 <= attempts <= 4 and needed(p, e) * attempts == m
                        self.assertIs(fits((p, 4, 1, m), e, attempts), expected)
                        right += expected
        self.assertGreater(right, 300)


class ResultTest(unittest.TestCase):
    def test_known_answers(self):
        setup = (11, 4, 1, 2)
        tapes = ((7, 2, 3, 4, 5, 6), (2,), (), (0, 0, 0, 8))
        board, told = draw(setup, THREE, 2, tapes, NO_FOES)
        self.assertEqual(board, board_of(play(setup, tapes, NO_FOES)))
        # The numbers 9 and 1 are drawn, and 9 is not good.
        self.assertEqual(numbers(setup, board), (9, 1))
        self.assertEqual(told, ("drawn", 1, ("y",), 1))
        self.assertEqual(result(setup, THREE, 2, board), told)
        # Both are not good.
        self.assertEqual(draw(setup, THREE, 2, tapes[:2] + ((0, 0, 0, 9), tapes[3]), NO_FOES)[1], ("void",))

    def test_an_empty_board(self):
        for m, attempts in ((1, 1), (2, 2), (3, 3)):
            setup = (11, 4, 1, m)
            self.assertIsNone(result(setup, THREE, attempts, ()))
            for told in STRANGE + (("void",), ("drawn", 0, ("x",), 0), None):
                self.assertIs(is_outcome(setup, THREE, attempts, (), told), False)

    def test_a_board_without_enough_shares(self):
        setup = (11, 4, 1, 2)
        board, told = draw(setup, THREE, 2, TAPES, NO_FOES)
        self.assertEqual(result(setup, THREE, 2, without(board, (8, 3, 0, 1))), told)
        few = without(board, (8, 3, 0, 1), (8, 4, 0, 1))
        self.assertIsNone(result(setup, THREE, 2, few))
        self.assertIs(is_outcome(setup, THREE, 2, few, told), False)
        self.assertIs(is_outcome(setup, THREE, 2, few, None), False)

    def test_any_board(self):
        some = small_lots(30, Stream(42), 200)
        found = {True: 0, False: 0}
        for stream, setup, tapes, script in cases(80, 100):
            board = board_of(play(setup, tapes, script))
            changed = changed_board(stream, setup, board)
            shares = [address for address, _ in changed if address[0] == 8]
            for few in (board, changed, without(changed, *shares[:2]), without(changed, *shares[::2])):
                told = PlainBoard(setup, dict(few)).numbers()
                found[told is None] += 1
                for e, attempts in fitting(stream, setup, some)[:5]:
                    expected = None if told is None else drawn(setup[0], e, attempts, told)
                    self.assertEqual(result(setup, e, attempts, few), expected)
                    self.assertIs(is_outcome(setup, e, attempts, few, expected), expected is not None)
        self.assertGreater(min(found.values()), 20)


class IsOutcomeTest(unittest.TestCase):
    def test_told_values_that_are_changed(self):
        parts = (None, "", "x", "y", "void", "drawn", 0, 1, 2, 3, (), ("x",), ("y",), DEEP, DEEP_BEHIND)
        setup = (11, 4, 1, 2)
        kinds = set()
        for first, second in itertools.product((0, 4, 8, 9, 10), repeat=2):
            board, told = draw(setup, THREE, 2, ((first, 0, 0, second),) + TAPES[1:], ((4,), ()))
            kinds.add((told[0], told[-1]))
            self.assertIs(is_outcome(setup, THREE, 2, board, tuple(list(told))), True)
            for changed in neighbours(told, parts):
                # A neighbour may be the same again, where a part is replaced by itself.
                expected = isinstance(changed, tuple) and changed == told
                self.assertIs(is_outcome(setup, THREE, 2, board, changed), expected)
            for value in STRANGE:
                self.assertIs(is_outcome(setup, THREE, 2, board, value), False)
        self.assertEqual(kinds, {("drawn", 0), ("drawn", 1), ("void", "void")})

    def test_just_one_is_right(self):
        for stream, setup, tapes, script in cases(40, 300):
            for e, attempts in fitting(stream, setup, small_lots(20, Stream(43), 50))[:3]:
                board, told = draw(setup, e, attempts, tapes, script)
                everything = plain_all(e)
                values = [("drawn", k, outcome, h) for k, outcome in enumerate(everything) for h in range(attempts)]
                right = [value for value in values + [("void",)] if is_outcome(setup, e, attempts, board, value)]
                self.assertEqual(right, [told])


class DrawTest(unittest.TestCase):
    def test_plays_with_foes(self):
        some = small_lots(30, Stream(44), 200)
        kinds = set()
        for stream, setup, tapes, script in cases(120, 400):
            expected = board_of(play(setup, tapes, script))
            for e, attempts in fitting(stream, setup, some)[:4]:
                board, told = draw(setup, e, attempts, tapes, script)
                self.assertEqual(board, expected)
                self.assertIsNotNone(told)
                self.assertEqual(told, drawn(setup[0], e, attempts, PlainPlay(setup, tapes, script).numbers()))
                # Everybody finds the same from the board alone.
                self.assertEqual(result(setup, e, attempts, board), told)
                self.assertIs(is_outcome(setup, e, attempts, board, told), True)
                kinds.add((told[0], told[-1]))
        self.assertIn(("drawn", 0), kinds)
        self.assertIn(("drawn", 1), kinds)

    def test_foes_do_not_change_what_comes_after_round_7(self):
        setup = (11, 4, 1, 2)
        told = draw(setup, THREE, 2, TAPES, NO_FOES)[1]
        for a in (0, 1):
            for change in (("drop",), ("is", 0), ("add", 1), ("copy", (8, 2, 0, 0))):
                self.assertEqual(draw(setup, THREE, 2, TAPES, ((3,), (((8, 3, 0, a), change),)))[1], told)


class WholeTest(unittest.TestCase):
    """Points 4, 21, 26, 28 and 30 with tapes of any length, up to six numbers, and any board."""

    def test_plays_and_boards_like_the_plain_reckoning(self):
        for stream, setup, tapes, script in cases(90, 500):
            self.assertTrue(is_script(setup, script))
            plain = PlainPlay(setup, tapes, script)
            messages = play(setup, tapes, script)
            self.assertEqual(messages, plain.messages(), (setup, tapes, script))
            for board in (board_of(messages), changed_board(stream, setup, board_of(messages))):
                told = PlainBoard(setup, dict(board))
                self.assertEqual((outs(setup, board), numbers(setup, board), blame(setup, board)),
                                 (told.outs(), told.numbers(), told.blame()))
                self.assertIs(is_drawn(setup, board, told.numbers()), told.numbers() is not None)

    def test_any_posts(self):
        for seed in range(40):
            stream = Stream(600 + seed)
            n, t = SIZES[stream.below(7)]
            setup = (11, n, t, 1 + seed % 6)
            board = tuple((address, stream.below(2)) for step in range(3, 9) for address in addresses(setup, step)
                          if stream.below(3))
            told = PlainBoard(setup, dict(board))
            self.assertEqual((outs(setup, board), numbers(setup, board), blame(setup, board)),
                             (told.outs(), told.numbers(), told.blame()))

    def test_behind_the_end_of_a_tape_there_are_zeros(self):
        for stream, setup, tapes, script in cases(30, 700):
            filled = tuple((tape + (0,) * tape_length(setup))[:tape_length(setup)] for tape in tapes)
            told = play(setup, tapes, script)
            self.assertEqual(play(setup, filled, script), told)
            self.assertEqual(play(setup, tuple(tape + stream.numbers(setup[0], 9) for tape in filled), script), told)

    def test_turning(self):
        for stream, setup, tapes, script in cases(60, 800):
            p, m = setup[0], setup[3]
            before = play(setup, tapes, script)
            told = numbers(setup, board_of(before))
            a, d = stream.below(m), stream.below(p)
            after = play(setup, turned(setup, tapes, script, a, d), script)
            self.assertEqual(seen(after, script[0], 7), seen(before, script[0], 7))
            self.assertEqual(numbers(setup, board_of(after)),
                             tuple((v + d) % p if at == a else v for at, v in enumerate(told)))


class AimedTest(unittest.TestCase):
    def check(self, setup, tapes, script, wanted):
        found = aimed(setup, tapes, script, wanted)
        self.assertIs(type(found), tuple)
        self.assertEqual([len(tape) for tape in found], [tape_length(setup)] * setup[1])
        self.assertTrue(all(type(tape) is tuple and set(tape) <= set(range(setup[0])) for tape in found))
        after = play(setup, found, script)
        self.assertEqual(numbers(setup, board_of(after)), wanted, (setup, tapes, script))
        self.assertEqual(seen(after, script[0], 7), seen(play(setup, tapes, script), script[0], 7))
        for i, tape in enumerate(tapes, 1):
            if i in script[0]:
                self.assertEqual(found[i - 1], (tape + (0,) * tape_length(setup))[:tape_length(setup)])
        return found

    def test_known_answer(self):
        # The numbers 1 and 4 are drawn; Q is (x - 4)(y - 4), 5 divided by 16 is 1, and -1 divided by 16 is 2.
        setup, tapes = (11, 4, 1, 2), ((1, 2, 3, 4, 5, 6), (), (), ())
        self.assertEqual(aimed(setup, tapes, ((4,), ()), (6, 3)), ((6, 9, 4, 3, 8, 8),) + ((0,) * 6,) * 3)

    def test_each_tuple_of_wanted_numbers(self):
        setup = (11, 4, 1, 2)
        script = ((4,), RULES)
        tapes = tuple(Stream(i).numbers(11, 4 + i) for i in range(4))
        found = {self.check(setup, tapes, script, wanted) for wanted in itertools.product(range(11), repeat=2)}
        self.assertEqual(len(found), 121)
        # From each of them one comes to each other one.
        for some in sorted(found)[::30]:
            self.assertEqual({aimed(setup, some, script, wanted) for wanted in itertools.product(range(11), repeat=2)},
                             found)

    def test_any_play(self):
        for stream, setup, tapes, script in cases(90, 900):
            self.check(setup, tapes, script, stream.numbers(setup[0], setup[3]))

    def test_the_numbers_that_are_drawn_anyhow(self):
        for stream, setup, tapes, script in cases(30, 1100):
            told = numbers(setup, board_of(play(setup, tapes, script)))
            filled = tuple((tape + (0,) * tape_length(setup))[:tape_length(setup)] for tape in tapes)
            self.assertEqual(self.check(setup, tapes, script, told), filled)
            wanted = stream.numbers(setup[0], setup[3])
            there = aimed(setup, tapes, script, wanted)
            self.assertEqual(aimed(setup, there, script, told), filled)

    def test_turnings_one_after_another(self):
        for stream, setup, tapes, script in cases(30, 1200):
            told = numbers(setup, board_of(play(setup, tapes, script)))
            wanted = stream.numbers(setup[0], setup[3])
            expected = tapes
            for a in range(setup[3] - 1, -1, -1):
                expected = turned(setup, expected, script, a, wanted[a] - told[a])
            self.assertEqual(aimed(setup, tapes, script, wanted), expected)

    def test_a_party_gets_what_it_aims_at_whatever_foes_do_in_round_8(self):
        for stream, setup, tapes, script in cases(20, 1300):
            foes, rules = script
            more = tuple(((8, j, 0, a), change_from(stream, setup, 8)) for j in foes for a in range(setup[3]))
            earlier = tuple(rule for rule in rules if rule[0][0] < 8)
            wanted = stream.numbers(setup[0], setup[3])
            found = aimed(setup, tapes, script, wanted)
            self.assertEqual(numbers(setup, board_of(play(setup, found, (foes, earlier + more)))), wanted)


class TheoremTest(unittest.TestCase):
    """Point 63: among all rows of tapes each outcome comes as often as point 59 counts, whatever the foes do."""

    def check(self, setup, e, attempts, rows, script):
        self.assertTrue(fits(setup, e, attempts))
        p, m = setup[0], setup[3]
        found = {}
        for tapes in rows:
            told = draw(setup, e, attempts, tapes, script)[1]
            outcome = told[2] if told[0] == "drawn" else None
            found[outcome] = found.get(outcome, 0) + 1
        # The rows are so many for each of p to the power of m equal parts.
        each = len(rows) // p ** m
        expected = {outcome: each * counts(p, e, attempts, outcome) for outcome in plain_all(e)}
        if void_count(p, e, attempts):
            expected[None] = each * void_count(p, e, attempts)
        self.assertEqual(found, expected)
        self.assertEqual(sum(found.values()), len(rows))

    def test_one_party(self):
        for e in (A, THREE, ("order", ("a", "b")), ("seats", 3, (("a", 4), ("b", 3)))):
            self.check((11, 1, 0, 1), e, 1, [((x,),) for x in range(11)], NO_FOES)
            self.check((11, 1, 0, 2), e, 2, [(row,) for row in itertools.product(range(11), repeat=2)], NO_FOES)
        e = ("set", 3, NAMES[:6])
        self.check((11, 1, 0, 2), e, 1, [(row,) for row in itertools.product(range(11), repeat=2)], NO_FOES)

    def test_all_tapes_of_two_parties(self):
        self.check((11, 2, 0, 1), THREE, 1, [((x,), (y,)) for x in range(11) for y in range(11)], NO_FOES)

    def test_all_tapes_of_one_party_among_foes(self):
        rows = [(row, (5, 6, 7), (8, 9, 10), (2, 0, 4)) for row in itertools.product(range(11), repeat=3)]
        self.check(SMALL, THREE, 1, rows, ((4,), RULES))
        # The foe 1 sends what it gets, is unhappy with itself, and the tape of 4 is any one.
        rules = (((1, 1, 4, 0, 0), ("copy", (1, 4, 1, 0, 0))), ((1, 1, 2, 0, 1), ("copy", (1, 4, 1, 0, 1))),
                 ((5, 1, 0, 1), ("is", 0)), ((8, 1, 0, 0), ("copy", (8, 4, 0, 0))))
        moved = [row[1:] + row[:1] for row in rows]
        self.check(SMALL, ("seats", 3, (("a", 4), ("b", 1))), 1, moved, ((1,), rules))

    def test_all_turnings(self):
        some = small_lots(30, Stream(45), 100)
        seen_attempts = set()
        for at in range(14):
            stream = Stream(1400 + at)
            n, t = SIZES[at % 7]
            setup = (11 + 2 * (at // 7), n, t, 1 if n > 4 else 2)
            script = attack_from(stream, setup) if t else NO_FOES
            tapes = any_tapes(stream, setup)
            rows = [aimed(setup, tapes, script, wanted)
                    for wanted in itertools.product(range(setup[0]), repeat=setup[3])]
            self.assertEqual(len(set(rows)), setup[0] ** setup[3])
            for e, attempts in fitting(stream, setup, some)[:3]:
                self.check(setup, e, attempts, rows, script)
                seen_attempts.add(attempts)
        self.assertEqual(seen_attempts, {1, 2})

    def test_each_outcome_has_its_share_among_what_is_drawn(self):
        e = ("among", ((3, A), (1, ("order", ("a", "b"))), (0, ("sure", "c"))))
        tapes = tuple(Stream(i).numbers(11, 6) for i in range(4))
        setup, script = (11, 4, 1, 2), ((4,), RULES)
        told = [draw(setup, e, 2, aimed(setup, tapes, script, wanted), script)[1]
                for wanted in itertools.product(range(11), repeat=2)]
        good = [answer[2] for answer in told if answer != ("void",)]
        self.assertEqual(len(good), 121 - void_count(11, e, 2))
        for outcome, many in outcomes(e, 3):
            self.assertEqual(good.count(outcome) * 8, len(good) * many)


class LimitTest(unittest.TestCase):
    def test_lots_that_are_too_great(self):
        setup = (11, 4, 1, 2)
        board = board_of(play(setup, TAPES, NO_FOES))
        for e in ALL_TOO_GREAT:
            for attempts in (-1, 0, 1, 2, 9):
                self.assertRaises(LimitError, fits, setup, e, attempts)
                for posts in ((), board):
                    self.assertRaises(LimitError, result, setup, e, attempts, posts)
                    for told in (None, ("void",), DEEP):
                        self.assertRaises(LimitError, is_outcome, setup, e, attempts, posts, told)
                self.assertRaises(LimitError, draw, setup, e, attempts, TAPES, NO_FOES)
        # Before anything else: not even what is no board, or no tapes, is looked at.
        self.assertRaises(LimitError, result, setup, ALL_TOO_GREAT[0], 2, None)
        self.assertRaises(LimitError, draw, setup, ALL_TOO_GREAT[0], 2, None, None)


class FormTest(unittest.TestCase):
    def test_kinds_of_values(self):
        told = draw((11, 1, 0, 1), THREE, 1, ((4,),), NO_FOES)
        self.assertEqual(repr(told), "((((8, 1, 0, 0), 4),), ('drawn', 1, ('y',), 0))")
        self.assertEqual(repr(draw((11, 1, 0, 1), THREE, 1, ((10,),), NO_FOES)), "((((8, 1, 0, 0), 10),), ('void',))")

    def test_answers_do_not_depend_on_earlier_calls(self):
        some = [case[1:] for case in cases(25, 1500)]

        def told(setup, tapes, script):
            board, drawn_first = draw(setup, A, setup[3], tapes, script)
            return board, drawn_first, result(setup, A, 1, board), aimed(setup, tapes, script, (1,) * setup[3])
        first = [told(*case) for case in some]
        self.assertEqual([told(*case) for case in reversed(some)], first[::-1])

    def test_beyond_the_limits(self):
        setup = (11, 4, 1, 2)
        for attempts in (-1, 0, 1, 3, 5):
            board, told = draw(setup, THREE, attempts, TAPES, NO_FOES)
            self.assertEqual(result(setup, THREE, attempts, board), told)
            is_outcome(setup, THREE, attempts, board, told)
        for wanted in ((), (1,), (1, 2, 3), (-5, 40)):
            self.assertEqual([len(tape) for tape in aimed(setup, TAPES, NO_FOES, wanted)], [6] * 4)
        wrong = tuple(((8, j, 0, 0), ("drop",)) for j in (1, 2))
        self.assertEqual([len(tape) for tape in aimed(setup, TAPES, ((1, 2), wrong), (1, 2))], [6] * 4)
        everybody = ((1, 2, 3, 4), (((8, 1, 0, 0), ("add", 1)),))
        aimed(setup, TAPES, everybody, (1, 2))
        fits((11, 8, 3, 7), THREE, 7)

    def test_interface(self):
        for function, names in (
                (fits, ["setup", "e", "attempts"]), (result, ["setup", "e", "attempts", "board"]),
                (draw, ["setup", "e", "attempts", "tapes", "script"]), (aimed, ["setup", "tapes", "script", "wanted"]),
                (is_outcome, ["setup", "e", "attempts", "board", "told"])):
            self.assertEqual(function.__module__, draws.__name__)
            self.assertEqual(list(inspect.signature(function).parameters), names)


if __name__ == "__main__":
    unittest.main()
