"""Points 22, 26, 29 and 30: the dealers that are out, the drawn numbers, and blame, on any board."""

import inspect
import itertools
import unittest

from sortes import opening
from sortes.dealing import board_of, play
from sortes.opening import blame, numbers, outs
from tests.plain import PlainBoard, PlainPlay, addresses, parties, plain_table, table_value
from tests.plays import (NO_FOES, SMALL, TAPES, changed_board, script_from, setup_from, tapes_from, with_posts,
                         without)
from tests.samples import Stream, plain_value

SETUPS = ((11, 1, 0, 1), (11, 2, 0, 2), (13, 3, 0, 1), (11, 4, 1, 1), (17, 4, 1, 3), (31, 6, 1, 2), (11, 7, 2, 1),
          (101, 7, 2, 2))

# The dealer 1 sends a wrong row to the party 2, and a wrong one to the party 3.
BAD_FOR_2 = ((1, 1, 2, 0, 0), ("add", 1))
BAD_FOR_3 = ((1, 1, 3, 0, 0), ("add", 1))
# The dealer 1 complains about itself for the pair of 1 and 2, and does not say that it is unhappy then.
COMPLAINT = ((3, 1, 0, 1, 2), ("is", 1))
HAPPY = ((5, 1, 0, 1), ("drop",))


def board_after(*rules, setup=SMALL, tapes=TAPES, foes=(1,)):
    return board_of(play(setup, tapes, (foes, rules)))


def told_board(setup, seed):
    """Posts as they are told in a play in which two parties are unhappy with the dealer 1, which is right."""
    p, n, t, m = setup
    tape = Stream(seed).numbers(p, 60)
    posts = {}
    for a in range(m):
        table = plain_table(setup, tape, a)
        for j, k in itertools.permutations((1, 2, 3, 4), 2):
            posts[3, j, 0, 1, k] = 1
            posts[4, 1, 0, j, k, a] = table_value(p, table, j, k)
        for j in (2, 3):
            posts[5, j, 0, 1] = 1
            for u in range(t + 1):
                posts[6, 1, 0, j, a, u] = sum(table[v, u] * j ** v for v in range(t + 1)) % p
    return tuple(sorted(posts.items()))


def shares_board(setup, *polynomials):
    """The shares that lie on these polynomials, one for each number."""
    p = setup[0]
    return tuple(((8, j, 0, a), plain_value(p, f, j)) for j in parties(setup) for a, f in enumerate(polynomials))


class ReasonsTest(unittest.TestCase):
    """Each of the four reasons of point 22 in plays with a foe."""

    def check(self, reasons, *rules, setup=SMALL, tapes=TAPES, foes=(1,)):
        board = board_after(*rules, setup=setup, tapes=tapes, foes=foes)
        self.assertEqual(outs(setup, board), (1,) if reasons else (), rules)
        self.assertEqual(blame(setup, board), tuple((1, reason) for reason in reasons), rules)

    def test_nobody_is_out(self):
        self.check(())
        self.check((), BAD_FOR_2)
        self.check((), COMPLAINT)
        self.check((), ((5, 4, 0, 1), ("is", 1)), foes=(4,))

    def test_answer_alone(self):
        self.check(("answer",), COMPLAINT, HAPPY, ((4, 1, 0, 1, 2, 0), ("drop",)))

    def test_answer_for_one_of_several_numbers(self):
        for a in range(3):
            self.check(("answer",), COMPLAINT, HAPPY, ((4, 1, 0, 1, 2, a), ("drop",)), setup=(11, 4, 1, 3))

    def test_clash_of_two_answers_alone(self):
        crossing = ((2, 1, 2, 1, 0), ("add", 1))
        self.check((), crossing)
        self.check(("clash",), crossing, COMPLAINT, HAPPY, ((4, 1, 0, 1, 2, 0), ("add", 1)))

    def test_clash_of_an_answer_and_a_row_alone(self):
        self.check((), COMPLAINT, HAPPY, ((4, 1, 0, 2, 1, 0), ("add", 1)))
        self.check(("clash",), COMPLAINT, HAPPY, ((4, 1, 0, 1, 2, 0), ("add", 1)))
        crossing = ((2, 1, 2, 1, 0), ("add", 1))
        self.check(("clash",), crossing, HAPPY, ((4, 1, 0, 2, 1, 0), ("add", 1)))

    def test_many_alone(self):
        self.check(("many",), BAD_FOR_2, BAD_FOR_3)
        self.check(("many",), BAD_FOR_2, ((5, 1, 0, 1), ("is", 0)))
        self.check(("many",), BAD_FOR_2, ((7, 1, 0, 1), ("is", 0)))

    def test_row(self):
        for u in (0, 1):
            self.check(("many", "row"), BAD_FOR_2, ((6, 1, 0, 2, 0, u), ("drop",)))

    def test_row_alone(self):
        # In a play all others that are not unhappy are against the dealer then, on a board they may be left out.
        board = with_posts(shares_board((11, 4, 1, 2), (), ()), ((5, 1, 0, 1), 1), ((6, 1, 0, 1, 0, 0), 0),
                           ((6, 1, 0, 1, 0, 1), 0), ((6, 1, 0, 1, 1, 1), 0))
        self.assertEqual(blame((11, 4, 1, 2), board), ((1, "row"),))
        self.check(("many", "row"), ((5, 1, 0, 1), ("is", 1)), ((6, 1, 0, 1, 1, 0), ("drop",)), setup=(11, 4, 1, 2))

    def test_all_reasons(self):
        rules = (BAD_FOR_2, BAD_FOR_3, ((6, 1, 0, 2, 0, 0), ("drop",)), ((4, 1, 0, 2, 4, 0), ("drop",)),
                 ((4, 1, 0, 2, 1, 0), ("add", 1)))
        self.check(("answer", "clash", "many", "row"), *rules)

    def test_two_foes(self):
        setup = (31, 7, 2, 1)
        tapes = tuple(Stream(i).numbers(31, 6) for i in range(7))
        bad = [((1, i, j, 0, 0), ("add", 1)) for i, j in ((2, 1), (2, 3), (5, 1), (5, 3), (5, 4))]
        board = board_after(*bad, setup=setup, tapes=tapes, foes=(2, 5))
        self.assertEqual(outs(setup, board), (5,))
        self.assertEqual(blame(setup, board), ((5, "many"),))
        board = board_after(*bad, ((7, 5, 0, 2), ("is", 1)), setup=setup, tapes=tapes, foes=(2, 5))
        self.assertEqual(blame(setup, board), ((2, "many"), (5, "many")))
        # Whom two foes are against is not out for this.
        board = board_after(((7, 5, 0, 1), ("is", 1)), ((5, 2, 0, 1), ("is", 1)), setup=setup, tapes=tapes, foes=(2, 5))
        self.assertEqual(blame(setup, board), ())


class OutsTest(unittest.TestCase):
    """The four reasons on boards with posts left out, changed or put in."""

    def check(self, setup, board, *reasons):
        self.assertEqual(outs(setup, board), (1,) if reasons else ())
        self.assertEqual(blame(setup, board), tuple((1, reason) for reason in reasons))

    def test_a_board_on_which_all_is_told(self):
        for setup in ((11, 7, 2, 1), (101, 7, 2, 3), (31, 7, 2, 2)):
            self.check(setup, told_board(setup, 5))

    def test_empty_board(self):
        for setup in SETUPS:
            self.assertEqual(outs(setup, ()), ())
            self.assertIsNone(numbers(setup, ()))
            self.assertEqual(blame(setup, ()), ())

    def test_each_answer_left_out_or_changed(self):
        setup = (31, 7, 2, 2)
        board = told_board(setup, 6)
        for address, number in board:
            if address[0] == 4:
                self.check(setup, without(board, address), "answer")
                self.check(setup, with_posts(board, (address, (number + 1) % 31)), "clash")

    def test_each_coefficient_left_out_or_changed(self):
        setup = (31, 7, 2, 2)
        board = told_board(setup, 7)
        for address, number in board:
            if address[0] == 6:
                self.check(setup, without(board, address), "row")
                self.check(setup, with_posts(board, (address, (number + 1) % 31)), "clash")

    def test_answers_without_complaints_do_not_count(self):
        setup = (31, 7, 2, 2)
        board = told_board(setup, 8)
        for address, number in board:
            if address[0] == 4:
                complaint = (3, address[3], 0, 1, address[4])
                self.check(setup, without(board, complaint))
                self.check(setup, without(board, complaint, address))
                self.check(setup, without(with_posts(board, (address, (number + 1) % 31)), complaint))

    def test_rows_for_parties_that_are_not_unhappy_do_not_count(self):
        setup = (31, 7, 2, 2)
        board = told_board(setup, 9)
        for j in (1, 4):
            row = [((6, 1, 0, j, a, u), 1 + a + u) for a in range(2) for u in range(3)]
            self.check(setup, with_posts(board, *row))
            self.check(setup, with_posts(board, *row[:2]))
            self.check(setup, without(with_posts(board, *row, ((5, j, 0, 1), 1)), (5, 2, 0, 1), (5, 3, 0, 1)), "clash")
        self.check(setup, without(with_posts(board, ((6, 1, 0, 2, 0, 0), 3)), (5, 2, 0, 1)))

    def test_two_answers_differ(self):
        posts = [((3, 2, 0, 1, 3), 1), ((3, 3, 0, 1, 2), 1), ((4, 1, 0, 2, 3, 0), 4), ((4, 1, 0, 3, 2, 0), 4)]
        self.check(SMALL, tuple(posts))
        self.check(SMALL, with_posts(posts, ((4, 1, 0, 3, 2, 0), 5)), "clash")
        for missing in posts[:2]:
            self.check(SMALL, without(with_posts(posts, ((4, 1, 0, 3, 2, 0), 5)), missing[0]))
        for missing in posts[2:]:
            self.check(SMALL, without(with_posts(posts, ((4, 1, 0, 3, 2, 0), 5)), missing[0]), "answer")

    def test_numbers_are_compared_by_themselves(self):
        posts = (((3, 2, 0, 1, 3), 1), ((3, 3, 0, 1, 2), 1), ((4, 1, 0, 2, 3, 0), 4), ((4, 1, 0, 2, 3, 1), 5),
                 ((4, 1, 0, 3, 2, 0), 4), ((4, 1, 0, 3, 2, 1), 5))
        self.check((11, 4, 1, 2), posts)
        self.check((11, 4, 1, 2), with_posts(posts, ((4, 1, 0, 2, 3, 0), 5), ((4, 1, 0, 2, 3, 1), 4)), "clash")

    def test_an_answer_and_the_row_of_the_first_or_the_second_party(self):
        # The row 5 + 8 y for 2 has the value 7 at 3.
        opened = (((5, 2, 0, 1), 1), ((6, 1, 0, 2, 0, 0), 5), ((6, 1, 0, 2, 0, 1), 8))
        for j, k in ((2, 3), (3, 2)):
            for number in range(11):
                board = with_posts(opened, ((3, j, 0, 1, k), 1), ((4, 1, 0, j, k, 0), number))
                self.check(SMALL, board, *(() if number == 7 else ("clash",)))
        # An answer for a pair without 2 has nothing to do with it.
        self.check(SMALL, with_posts(opened, ((3, 3, 0, 1, 4), 1), ((4, 1, 0, 3, 4, 0), 1)))

    def test_two_rows(self):
        setup = (11, 7, 2, 1)
        rows = (((5, 2, 0, 1), 1), ((5, 3, 0, 1), 1), ((6, 1, 0, 2, 0, 0), 5), ((6, 1, 0, 2, 0, 1), 8),
                ((6, 1, 0, 2, 0, 2), 0), ((6, 1, 0, 3, 0, 0), 7), ((6, 1, 0, 3, 0, 1), 0), ((6, 1, 0, 3, 0, 2), 0))
        self.check(setup, rows)
        self.check(setup, with_posts(rows, ((6, 1, 0, 3, 0, 1), 1)), "clash")
        self.check(setup, with_posts(rows, ((6, 1, 0, 3, 0, 0), 5), ((6, 1, 0, 3, 0, 1), 1)))
        self.check(setup, without(with_posts(rows, ((6, 1, 0, 3, 0, 1), 1)), (5, 3, 0, 1)))
        self.check(setup, without(with_posts(rows, ((6, 1, 0, 3, 0, 1), 1)), (6, 1, 0, 3, 0, 0)), "row")

    def test_a_row_counts_whatever_is_left_out_for_other_numbers(self):
        setup = (31, 7, 2, 2)
        board = told_board(setup, 10)
        for a in (0, 1):
            left_out = without(board, (6, 1, 0, 2, 1 - a, 1))
            self.check(setup, left_out, "row")
            changed = with_posts(left_out, ((6, 1, 0, 2, a, 1), (dict(board)[6, 1, 0, 2, a, 1] + 1) % 31))
            self.check(setup, changed, "clash", "row")
            # All other coefficients of a row that is not complete are not compared.
            changed = with_posts(left_out, ((6, 1, 0, 2, 1 - a, 0), (dict(board)[6, 1, 0, 2, 1 - a, 0] + 1) % 31))
            self.check(setup, changed, "row")

    def test_the_answers_that_are_there_are_compared(self):
        setup = (31, 7, 2, 2)
        board = told_board(setup, 11)
        changed = with_posts(without(board, (4, 1, 0, 1, 4, 0)), ((4, 1, 0, 1, 4, 1), 40 % 31))
        number = dict(board)[4, 1, 0, 1, 4, 1]
        self.check(setup, changed, *(("answer",) if number == 9 else ("answer", "clash")))

    def test_many(self):
        setup = (11, 7, 2, 1)
        zero_rows = tuple(((6, 1, 0, j, 0, u), 0) for j in range(1, 8) for u in range(3))
        for many in range(1, 6):
            for steps in itertools.product((5, 7), repeat=many):
                posts = [((step, j, 0, 1), 1) for j, step in enumerate(steps, 2)]
                self.check(setup, with_posts(zero_rows, *posts), *(("many",) if many > 2 else ()))

    def test_many_counts_each_party_once(self):
        setup = (11, 7, 2, 1)
        zero_rows = tuple(((6, 1, 0, j, 0, u), 0) for j in range(1, 8) for u in range(3))
        both = [((step, j, 0, 1), 1) for j in (1, 2) for step in (5, 7)]
        self.check(setup, with_posts(zero_rows, *both))
        self.check(setup, with_posts(zero_rows, *both, ((7, 3, 0, 1), 1)), "many")
        self.check((11, 4, 1, 1), with_posts(zero_rows, ((5, 1, 0, 1), 1), ((7, 1, 0, 1), 1)))
        self.check((11, 2, 0, 1), (((7, 1, 0, 1), 1),), "many")

    def test_posts_count_whatever_their_number(self):
        for v in range(11):
            self.check(SMALL, (((3, 2, 0, 1, 3), v),), "answer")
            self.check(SMALL, (((5, 2, 0, 1), v),), "row")
            self.check(SMALL, (((7, 2, 0, 1), v), ((7, 3, 0, 1), v)), "many")

    def test_posts_of_others_do_not_count(self):
        self.check(SMALL, (((4, 2, 0, 2, 3, 0), 4), ((6, 3, 0, 2, 0, 0), 4), ((7, 2, 0, 1), 1), ((7, 2, 0, 3), 1)))
        board = (((3, 2, 0, 1, 3), 1), ((4, 3, 0, 2, 3, 0), 4))
        self.check(SMALL, board, "answer")

    def test_several_dealers(self):
        board = (((3, 2, 0, 4, 3), 1), ((5, 1, 0, 2), 1), ((7, 2, 0, 3), 1))
        self.assertEqual(outs(SMALL, board), (2, 4))
        self.assertEqual(blame(SMALL, board), ((2, "row"), (4, "answer")))


class NumbersTest(unittest.TestCase):
    def test_known_answers(self):
        self.assertEqual(numbers(SMALL, board_after(foes=())), (1,))
        self.assertEqual(numbers((11, 1, 0, 2), (((8, 1, 0, 0), 4), ((8, 1, 0, 1), 0))), (4, 0))
        self.assertEqual(numbers((13, 4, 1, 2), shares_board((13, 4, 1, 2), (3, 5), (0, 12))), (3, 0))

    def test_sum_of_the_values_in_plays_by_the_rules(self):
        for setup in SETUPS:
            stream = Stream(setup[0] + setup[1])
            tapes = tapes_from(stream, setup)
            told = tuple(sum(plain_table(setup, tape, a)[0, 0] for tape in tapes) % setup[0] for a in range(setup[3]))
            board = board_of(play(setup, tapes, NO_FOES))
            self.assertEqual(numbers(setup, board), told)
            self.assertEqual(blame(setup, board), ())

    def test_shares_left_out_or_changed(self):
        for setup in SETUPS:
            p, n, t, m = setup
            stream = Stream(2 * p + n)
            polynomials = [stream.numbers(p, t + 1) for _ in range(m)]
            board = shares_board(setup, *polynomials)
            told = tuple(f[0] for f in polynomials)
            for many in range(n + 1):
                for bad in itertools.combinations(parties(setup), many):
                    posts = [(8, j, 0, a) for j in bad for a in range(m)]
                    left_out = without(board, *posts)
                    # All at once are moved by the same number, so that none of them lies on the polynomial.
                    moved = with_posts(board, *[(at, (dict(board)[at] + 1) % p) for at in posts])
                    self.assertEqual(numbers(setup, left_out), told if many <= t else None)
                    if many <= t:
                        self.assertEqual(numbers(setup, moved), told)
                        self.assertEqual(blame(setup, moved), tuple((j, "share") for j in bad))
                        self.assertEqual(blame(setup, left_out), tuple((j, "share") for j in bad))
                    else:
                        self.assertEqual(blame(setup, left_out), ())

    def test_one_number_without_a_polynomial(self):
        setup = (13, 4, 1, 3)
        board = shares_board(setup, (1, 2), (3, 4), (5, 6))
        for a in range(3):
            self.assertIsNone(numbers(setup, without(board, (8, 1, 0, a), (8, 4, 0, a))))
            self.assertIsNone(numbers(setup, with_posts(board, ((8, 1, 0, a), 0), ((8, 4, 0, a), 0))))

    def test_left_out_and_wrong(self):
        setup = (11, 7, 2, 1)
        board = shares_board(setup, (4, 5, 6))
        some = without(board, (8, 3, 0, 0))
        self.assertEqual(numbers(setup, with_posts(some, ((8, 6, 0, 0), 0))), (4,))
        self.assertIsNone(numbers(setup, with_posts(some, ((8, 6, 0, 0), 0), ((8, 7, 0, 0), 0))))

    def test_the_degree_is_at_most_t(self):
        setup = (11, 4, 1, 1)
        self.assertIsNone(numbers(setup, shares_board(setup, (1, 2, 3))))
        self.assertEqual(numbers(setup, shares_board(setup, (9,))), (9,))
        self.assertEqual(numbers(setup, shares_board(setup, ())), (0,))
        self.assertEqual(numbers((11, 4, 0, 1), shares_board(setup, (9,))), (9,))
        self.assertIsNone(numbers((11, 4, 0, 1), shares_board(setup, (9, 1))))

    def test_another_polynomial_that_enough_parties_tell(self):
        # Three of four parties tell 1 + x, whatever the others would have told.
        board = shares_board(SMALL, (1, 1))
        for j in parties(SMALL):
            for v in range(11):
                self.assertEqual(numbers(SMALL, with_posts(board, ((8, j, 0, 0), v))), (1,))

    def test_other_posts_do_not_count(self):
        board = shares_board((31, 7, 2, 2), (1, 2, 3), (30,))
        self.assertEqual(numbers((31, 7, 2, 2), tuple(sorted(board + told_board((31, 7, 2, 2), 3)))), (1, 30))
        self.assertEqual(numbers((31, 7, 2, 2), with_posts(board, ((7, 1, 0, 2), 5), ((3, 1, 0, 2, 3), 1))), (1, 30))


class BlameTest(unittest.TestCase):
    SETUP = (13, 4, 1, 2)
    BOARD = shares_board((13, 4, 1, 2), (1, 2), (3, 4))

    def test_share_left_out(self):
        for j in parties(self.SETUP):
            for a in (0, 1):
                self.assertEqual(blame(self.SETUP, without(self.BOARD, (8, j, 0, a))), ((j, "share"),))
            self.assertEqual(blame(self.SETUP, without(self.BOARD, (8, j, 0, 0), (8, j, 0, 1))), ((j, "share"),))

    def test_share_that_is_wrong(self):
        posts = dict(self.BOARD)
        for address in posts:
            for v in range(13):
                board = with_posts(self.BOARD, (address, v))
                self.assertEqual(blame(self.SETUP, board), () if v == posts[address] else ((address[1], "share"),))

    def test_a_share_left_out_is_not_taken_as_zero(self):
        board = shares_board((11, 4, 1, 1), ())
        self.assertEqual(blame((11, 4, 1, 1), board), ())
        self.assertEqual(blame((11, 4, 1, 1), without(board, (8, 3, 0, 0))), ((3, "share"),))

    def test_each_number_by_itself(self):
        board = with_posts(without(self.BOARD, (8, 4, 0, 0)), ((8, 2, 0, 1), 0))
        self.assertEqual(blame(self.SETUP, board), ((2, "share"), (4, "share")))
        self.assertEqual(numbers(self.SETUP, board), (1, 3))

    def test_a_number_without_a_polynomial(self):
        board = without(self.BOARD, (8, 1, 0, 0), (8, 2, 0, 0))
        self.assertEqual(blame(self.SETUP, board), ())
        self.assertIsNone(numbers(self.SETUP, board))
        board = without(board, (8, 3, 0, 1))
        self.assertEqual(blame(self.SETUP, board), ((3, "share"),))
        self.assertIsNone(numbers(self.SETUP, board))
        self.assertEqual(blame(self.SETUP, with_posts(self.BOARD, ((8, 1, 0, 1), 0), ((8, 2, 0, 1), 9))), ())

    def test_dealers_that_are_out_beside_shares(self):
        board = with_posts(without(self.BOARD, (8, 3, 0, 1)), ((3, 2, 0, 3, 4), 1), ((5, 1, 0, 4), 1))
        self.assertEqual(blame(self.SETUP, board), ((3, "answer"), (3, "share"), (4, "row")))
        board = with_posts(board, ((7, 1, 0, 1), 1), ((7, 2, 0, 1), 1))
        self.assertEqual(blame(self.SETUP, board), ((1, "many"), (3, "answer"), (3, "share"), (4, "row")))

    def test_blame_without_any_share(self):
        board = tuple(post for post in told_board((31, 7, 2, 1), 4) if post[0] != (4, 1, 0, 1, 2, 0))
        self.assertEqual(blame((31, 7, 2, 1), board), ((1, "answer"),))

    def test_shares_of_foes_in_plays(self):
        for change in (("drop",), ("add", 1), ("is", 0), ("copy", (8, 1, 0, 0))):
            board = board_after(((8, 4, 0, 0), change), foes=(4,))
            self.assertEqual(blame(SMALL, board), ((4, "share"),))
            self.assertEqual(numbers(SMALL, board), (1,))
        self.assertEqual(blame(SMALL, board_after(((8, 4, 0, 0), ("is", 9)), foes=(4,))), ())


class AnyBoardTest(unittest.TestCase):
    def check(self, setup, board):
        plain = PlainBoard(setup, dict(board))
        self.assertEqual(outs(setup, board), plain.outs(), (setup, board))
        self.assertEqual(numbers(setup, board), plain.numbers(), (setup, board))
        self.assertEqual(blame(setup, board), plain.blame(), (setup, board))

    def test_boards_of_plays_and_changed_ones(self):
        for seed in range(120):
            stream = Stream(5000 + seed)
            setup = setup_from(stream)
            board = board_of(play(setup, tapes_from(stream, setup), script_from(stream, setup)))
            self.check(setup, board)
            for _ in range(4):
                self.check(setup, changed_board(stream, setup, board))

    def test_boards_with_any_posts(self):
        for seed in range(60):
            stream = Stream(6000 + seed)
            setup = setup_from(stream)
            part = stream.below(4)
            board = [(address, stream.below(2)) for step in range(3, 9) for address in addresses(setup, step)
                     if stream.below(4) <= part]
            self.check(setup, tuple(board))

    def test_answers_do_not_depend_on_earlier_calls(self):
        cases = []
        for seed in range(20):
            stream = Stream(7000 + seed)
            setup = setup_from(stream)
            board = board_of(play(setup, tapes_from(stream, setup), script_from(stream, setup)))
            cases.append((setup, changed_board(stream, setup, board)))
        told = [(outs(*case), numbers(*case), blame(*case)) for case in cases]
        again = [(blame(*case), numbers(*case), outs(*case)) for case in reversed(cases)]
        self.assertEqual([answer[::-1] for answer in again[::-1]], told)

    def test_kinds_of_values(self):
        board = with_posts(without(TOLD_AND_SHARED, (4, 1, 0, 1, 2, 0)), ((8, 7, 0, 0), 0))
        self.assertEqual(repr(outs((31, 7, 2, 1), board)), "(1,)")
        self.assertEqual(repr(numbers((31, 7, 2, 1), board)), "(2,)")
        self.assertEqual(repr(blame((31, 7, 2, 1), board)), "((1, 'answer'), (7, 'share'))")

    def test_beyond_the_limits(self):
        setup = (11, 8, 3, 7)
        board = tuple(((8, j, 0, a), 20 + j) for j in range(1, 10) for a in range(8))
        board = with_posts(board, ((3, 9, 0, 1, 2), 1), ((6, 1, 0, 9, 9, 9), -4), ((5, 2, 0, 9), 15))
        self.assertEqual(outs(setup, board), ())
        self.assertEqual(len(blame(setup, board)), len(set(blame(setup, board))))
        numbers(setup, board)
        self.assertEqual(numbers((11, 12, 0, 1), ()), None)
        blame((11, 12, 0, 1), tuple(((8, j, 0, 0), 3) for j in range(1, 13)))


TOLD_AND_SHARED = tuple(sorted(told_board((31, 7, 2, 1), 12) + shares_board((31, 7, 2, 1), (2, 3, 4))))


class PlayTest(unittest.TestCase):
    """What holds of each play, whatever the foes do."""

    def test_whoever_gets_blame_is_a_foe_and_something_is_drawn(self):
        reasons = set()
        for seed in range(150):
            stream = Stream(8000 + seed)
            setup = setup_from(stream)
            tapes, script = tapes_from(stream, setup), script_from(stream, setup)
            board = board_of(play(setup, tapes, script))
            blamed = blame(setup, board)
            self.assertTrue({party for party, _ in blamed} <= set(script[0]), (setup, tapes, script))
            self.assertTrue(set(outs(setup, board)) <= set(script[0]))
            self.assertEqual(numbers(setup, board), PlainPlay(setup, tapes, script).numbers())
            self.assertIsNotNone(numbers(setup, board))
            reasons |= {reason for _, reason in blamed}
        self.assertEqual(reasons, {"answer", "clash", "many", "row", "share"})

    def test_the_same_number_for_a_foe_that_lies_to_others(self):
        for change in (("add", 3), ("drop",), ("is", 0), ("copy", (1, 3, 4, 0, 0))):
            for j in (1, 2, 3):
                board = board_after(((1, 4, j, 0, 0), change), foes=(4,), tapes=((1, 2, 3), (4,), (5,), (6, 7, 8)))
                self.assertEqual(numbers(SMALL, board), (5,))
                self.assertEqual(outs(SMALL, board), ())


class InterfaceTest(unittest.TestCase):
    def test_interface(self):
        for function in (outs, numbers, blame):
            self.assertEqual(function.__module__, opening.__name__)
            self.assertEqual(list(inspect.signature(function).parameters), ["setup", "board"])


if __name__ == "__main__":
    unittest.main()
