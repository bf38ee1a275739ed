"""Points 1, 27 and 29 of whole plays: whatever the foes do, there is a drawn number, it is fixed before round 8, and
only foes are out and get blame."""

import itertools
import unittest

from sortes.dealing import board_of, play
from sortes.opening import blame, numbers, outs
from sortes.referee import is_drawn, is_script
from tests.plain import PlainPlay, lagrange, parties, plain_table, table_row
from tests.plays import attack_from, change_from, script_from, setup_from, tapes_from
from tests.samples import Stream, plain_value

FOE_SETUPS = ((11, 4, 1, 1), (13, 4, 1, 2), (17, 5, 1, 1), (31, 6, 1, 1), (11, 7, 2, 1), (101, 7, 2, 2), (11, 7, 1, 1))


def cases(many, seed):
    """Plays with any script, and plays in which the foes attack with one of them as the dealer."""
    for at in range(many):
        stream = Stream(seed + at)
        setup = setup_from(stream)
        yield stream, setup, tapes_from(stream, setup), script_from(stream, setup)
        setup = FOE_SETUPS[at % len(FOE_SETUPS)]
        yield stream, setup, tapes_from(stream, setup), attack_from(stream, setup)


def used_row(told, i, j, a):
    """The row of the dealer i with which j makes its share."""
    return told.opened(i, j, a) if j in told.unhappy(i) else told.held(i, j, a)


class WholePlayTest(unittest.TestCase):
    def test_there_is_a_drawn_number_and_only_foes_are_out(self):
        reasons = set()
        for _, setup, tapes, script in cases(150, 100):
            self.assertTrue(is_script(setup, script))
            board = board_of(play(setup, tapes, script))
            drawn = numbers(setup, board)
            self.assertIs(is_drawn(setup, board, drawn), True, (setup, tapes, script))
            self.assertEqual(len(drawn), setup[3])
            self.assertTrue(set(outs(setup, board)) <= set(script[0]), (setup, tapes, script))
            blamed = blame(setup, board)
            self.assertTrue({party for party, _ in blamed} <= set(script[0]), (setup, tapes, script))
            reasons |= {reason for _, reason in blamed}
        self.assertEqual(reasons, {"answer", "clash", "many", "row", "share"})

    def test_symmetric_polynomials_of_the_dealers_that_are_not_out(self):
        opened = 0
        for _, setup, tapes, script in cases(80, 1000):
            p, n, t, m = setup
            told = PlainPlay(setup, tapes, script)
            board = board_of(play(setup, tapes, script))
            others = [j for j in parties(setup) if j not in script[0]]
            expected = [0] * m
            for i in set(parties(setup)) - set(outs(setup, board)):
                for a in range(m):
                    rows = {j: used_row(told, i, j, a) for j in others}
                    opened += len([j for j in others if j in told.unhappy(i)])
                    for j, k in itertools.combinations(others, 2):
                        self.assertEqual(plain_value(p, rows[j], k), plain_value(p, rows[k], j))
                    # Rows of t + 1 parties that fit one another belong to one symmetric polynomial, the others follow.
                    ends = [(j, rows[j][0]) for j in others]
                    for j, end in ends:
                        self.assertEqual(lagrange(p, ends[:t + 1], j), end)
                    expected[a] += lagrange(p, ends[:t + 1], 0)
            self.assertEqual(numbers(setup, board), tuple(number % p for number in expected), (setup, tapes, script))
        self.assertGreater(opened, 10)

    def test_dealers_that_are_no_foes_use_their_tapes(self):
        for _, setup, tapes, script in cases(40, 2000):
            told = PlainPlay(setup, tapes, script)
            others = [j for j in parties(setup) if j not in script[0]]
            for i, j in itertools.product(others, others):
                for a in range(setup[3]):
                    row = table_row(setup[0], setup[2], plain_table(setup, tapes[i - 1], a), j)
                    self.assertEqual(used_row(told, i, j, a), row, (setup, tapes, script))

    def test_fixed_before_round_8(self):
        changed = 0
        for stream, setup, tapes, script in cases(60, 3000):
            foes, rules = script
            told = numbers(setup, board_of(play(setup, tapes, script)))
            earlier = tuple(rule for rule in rules if rule[0][0] < 8)
            shares = [(8, j, 0, a) for j in foes for a in range(setup[3])]
            for last in range(3):
                more = tuple((at, ("drop",) if last == 0 else change_from(stream, setup, 8)) for at in shares)
                board = board_of(play(setup, tapes, (foes, earlier + more)))
                self.assertEqual(numbers(setup, board), told, (setup, tapes, script, more))
                changed += len(blame(setup, board)) > 0
        self.assertGreater(changed, 60)

    def test_foes_that_keep_the_rules_from_round_2_on(self):
        for at in range(60):
            stream = Stream(4000 + at)
            setup = FOE_SETUPS[at % len(FOE_SETUPS)]
            foes, rules = attack_from(stream, setup)
            script = (foes, tuple(rule for rule in rules if rule[0][0] == 1))
            tapes = tapes_from(stream, setup)
            board = board_of(play(setup, tapes, script))
            self.assertEqual({reason for _, reason in blame(setup, board)} - {"many"}, set())
            self.assertIsNotNone(numbers(setup, board))

    def test_everybody_finds_the_same_from_the_board(self):
        for _, setup, tapes, script in cases(20, 5000):
            board = board_of(play(setup, tapes, script))
            again = tuple((tuple(list(address)), number) for address, number in board)
            self.assertEqual((outs(setup, again), numbers(setup, again), blame(setup, again)),
                             (outs(setup, board), numbers(setup, board), blame(setup, board)))


if __name__ == "__main__":
    unittest.main()
