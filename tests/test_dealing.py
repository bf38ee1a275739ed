"""Points 20, 21, 24 and 25: plays by the rules, the board, and what parties see. Point 4 for plays."""

import inspect
import unittest

from sortes import dealing
from sortes.dealing import board_of, play, seen
from tests.plain import PlainPlay, addresses, parties, plain_table, table_value
from tests.plays import NO_FOES, SMALL, TAPES, script_from, setup_from, tape_length, tapes_from
from tests.samples import Stream

# What the dealer 1 of TAPES sends, and the crossings of its rows. Everything else in such a play is 0.
ROUND_1 = {(1, 1, 2, 0, 0): 5, (1, 1, 2, 0, 1): 8, (1, 1, 3, 0, 0): 7, (1, 1, 3, 0, 1): 0,
           (1, 1, 4, 0, 0): 9, (1, 1, 4, 0, 1): 3}
CROSSED = {(1, 2): 2, (1, 3): 7, (1, 4): 1, (2, 3): 7, (2, 4): 4, (3, 4): 7}
ROUND_2 = {(2, j, k, 1, 0): c for pair, c in CROSSED.items() for j, k in (pair, pair[::-1])}
ROUND_8 = {(8, 1, 0, 0): 3, (8, 2, 0, 0): 5, (8, 3, 0, 0): 7, (8, 4, 0, 0): 9}

SETUPS = ((11, 1, 0, 1), (11, 2, 0, 2), (13, 3, 0, 6), (11, 4, 0, 1), (11, 4, 1, 1), (17, 4, 1, 3), (31, 5, 1, 2),
          (101, 6, 1, 2), (11, 7, 0, 2), (13, 7, 1, 1), (11, 7, 2, 1), (101, 7, 2, 2))


def of_round(messages, step):
    return {address: number for address, number in messages if address[0] == step}


class HonestPlayTest(unittest.TestCase):
    def test_known_play(self):
        messages = play(SMALL, TAPES, NO_FOES)
        self.assertEqual([address for address, _ in messages],
                         [address for step in (1, 2, 8) for address in addresses(SMALL, step)])
        told = {address: number for address, number in messages if number != 0 or address in ROUND_1}
        self.assertEqual(told, {**ROUND_1, **ROUND_2, **ROUND_8})

    def test_one_party(self):
        self.assertEqual(play((11, 1, 0, 1), ((7,),), NO_FOES), (((8, 1, 0, 0), 7),))
        self.assertEqual(play((11, 1, 0, 3), ((7, 8),), NO_FOES),
                         (((8, 1, 0, 0), 7), ((8, 1, 0, 1), 8), ((8, 1, 0, 2), 0)))

    def test_no_foes_possible(self):
        self.assertEqual(play((11, 2, 0, 1), ((6,), (9,)), NO_FOES), (
            ((1, 1, 2, 0, 0), 6), ((1, 2, 1, 0, 0), 9),
            ((2, 1, 2, 1, 0), 6), ((2, 1, 2, 2, 0), 9), ((2, 2, 1, 1, 0), 6), ((2, 2, 1, 2, 0), 9),
            ((8, 1, 0, 0), 4), ((8, 2, 0, 0), 4)))

    def test_by_the_rules_only_three_rounds_have_messages(self):
        for setup in SETUPS:
            stream = Stream(setup[0] * setup[1])
            messages = play(setup, tapes_from(stream, setup), NO_FOES)
            self.assertEqual([address for address, _ in messages],
                             [address for step in (1, 2, 8) for address in addresses(setup, step)])

    def test_shares_are_values_of_the_sum_of_all_polynomials(self):
        for setup in SETUPS:
            p, n, t, m = setup
            stream = Stream(1 + p * n)
            tapes = tapes_from(stream, setup)
            shares = of_round(play(setup, tapes, NO_FOES), 8)
            for a in range(m):
                tables = [plain_table(setup, tape, a) for tape in tapes]
                for j in parties(setup):
                    self.assertEqual(shares[8, j, 0, a], sum(table_value(p, f, j, 0) for f in tables) % p)

    def test_polynomials_stand_one_behind_the_other_on_a_tape(self):
        messages = dict(play((11, 4, 1, 2), ((0, 0, 0, 1, 2, 3), (), (), ()), NO_FOES))
        for address, number in ROUND_1.items():
            self.assertEqual(messages[address], 0)
            self.assertEqual(messages[address[:3] + (1,) + address[4:]], number)
        for address, number in ROUND_8.items():
            self.assertEqual(messages[address], 0)
            self.assertEqual(messages[address[:3] + (1,)], number)

    def test_coefficients_that_are_zero_are_sent(self):
        messages = play((13, 7, 2, 2), ((),) * 7, NO_FOES)
        self.assertEqual(of_round(messages, 1), {address: 0 for address in addresses((13, 7, 2, 2), 1)})
        self.assertEqual(of_round(messages, 8), {address: 0 for address in addresses((13, 7, 2, 2), 8)})

    def test_behind_the_end_of_a_tape_there_are_zeros(self):
        for setup in SETUPS:
            p, n, _, _ = setup
            stream = Stream(2 + p * n)
            long = tape_length(setup)
            tapes = tapes_from(stream, setup)
            told = play(setup, tapes, NO_FOES)
            filled = tuple((tape + (0,) * long)[:long] for tape in tapes)
            self.assertEqual(play(setup, filled, NO_FOES), told)
            self.assertEqual(play(setup, tuple(tape + stream.numbers(p, 5) for tape in filled), NO_FOES), told)


class MessagesTest(unittest.TestCase):
    def check_form(self, setup, messages):
        self.assertIs(type(messages), tuple)
        for message in messages:
            self.assertIs(type(message), tuple)
            address, number = message
            self.assertIs(type(address), tuple)
            self.assertEqual({type(part) for part in address}, {int})
            self.assertIs(type(number), int)
            self.assertIn(number, range(setup[0]))
        found = [address for address, _ in messages]
        self.assertEqual(found, sorted(set(found)))

    def test_form_and_order(self):
        for seed in range(60):
            stream = Stream(seed)
            setup = setup_from(stream)
            script = script_from(stream, setup)
            messages = play(setup, tapes_from(stream, setup), script)
            self.check_form(setup, messages)
            for address, _ in messages:
                self.assertIn(address, addresses(setup, address[0]))

    def test_order_of_rounds_with_all_kinds_of_messages(self):
        rules = (((1, 1, 2, 0, 0), ("add", 1)), ((7, 1, 0, 3), ("is", 4)))
        messages = play(SMALL, TAPES, ((1,), rules))
        self.check_form(SMALL, messages)
        self.assertEqual({address[0] for address, _ in messages}, set(range(1, 9)))

    def test_like_the_plain_reckoning(self):
        for seed in range(150):
            stream = Stream(1000 + seed)
            setup = setup_from(stream)
            tapes, script = tapes_from(stream, setup), script_from(stream, setup)
            self.assertEqual(play(setup, tapes, script), PlainPlay(setup, tapes, script).messages(),
                             (setup, tapes, script))

    def test_answers_do_not_depend_on_earlier_calls(self):
        cases = []
        for seed in range(20):
            stream = Stream(2000 + seed)
            setup = setup_from(stream)
            cases.append((setup, tapes_from(stream, setup), script_from(stream, setup)))
        told = [play(*case) for case in cases]
        self.assertEqual([play(*case) for case in reversed(cases)], told[::-1])

    def test_beyond_the_limits(self):
        setup = (11, 8, 3, 7)
        tapes = tuple(Stream(i).numbers(11, 80) for i in range(8))
        rules = (((1, 9, 2, 0, 0), ("is", 1)), ((1, 2, 9, 0, 5), ("is", 1)), ((5, 2, 0, 9), ("is", 30)),
                 ((8, 2, 0, 7), ("copy", (8, 9, 0, 3))), ((4, 2, 0, 3, 3, 0), ("add", -5)))
        messages = play(setup, tapes, ((1, 2, 3, 4, 9), rules * 9))
        self.assertEqual(len(of_round(messages, 8)), 56)
        self.assertEqual(len(play((11, 12, 0, 1), ((1,),) * 12, NO_FOES)), 12 * 11 + 12 * 11 * 12 + 12)


class EachRoundTest(unittest.TestCase):
    """What the rules make of lies, worked out by hand for the play of SMALL and TAPES."""

    def told(self, step, *rules, foes=(1,)):
        return of_round(play(SMALL, TAPES, (foes, rules)), step)

    def test_what_is_left_out_is_held_as_zero(self):
        # 2 holds 0 + 8 y.
        crossed = self.told(2, ((1, 1, 2, 0, 0), ("drop",)))
        self.assertEqual([crossed[2, 2, k, 1, 0] for k in (1, 3, 4)], [8, 2, 10])
        self.assertEqual(crossed[2, 3, 2, 1, 0], 7)

    def test_a_dealer_keeps_its_own_row(self):
        rules = tuple((address, ("drop",)) for address in addresses(SMALL, 1) if address[1] == 1)
        crossed = self.told(2, *rules)
        self.assertEqual([crossed[2, 1, k, 1, 0] for k in (2, 3, 4)], [2, 7, 1])
        self.assertEqual([crossed[2, k, 1, 1, 0] for k in (2, 3, 4)], [0, 0, 0])

    def test_complaints(self):
        bad_row = ((1, 1, 2, 0, 0), ("add", 1))
        pairs = ((1, 2), (2, 1), (2, 3), (2, 4), (3, 2), (4, 2))
        self.assertEqual(self.told(3, bad_row), {(3, j, 0, 1, k): 1 for j, k in pairs})
        self.assertEqual(self.told(3, ((2, 1, 3, 2, 0), ("add", 1))), {(3, 3, 0, 2, 1): 1})
        self.assertEqual(self.told(3, ((2, 1, 3, 1, 0), ("drop",))), {(3, 3, 0, 1, 1): 1})
        # A crossing that is left out is not taken as 0.
        self.assertEqual(self.told(3, ((2, 1, 3, 3, 0), ("drop",))), {(3, 3, 0, 3, 1): 1})

    def test_one_complaint_for_all_numbers(self):
        rules = (((2, 1, 3, 2, 0), ("add", 1)), ((2, 1, 3, 2, 1), ("drop",)))
        for chosen in (rules, rules[:1], rules[1:]):
            told = of_round(play((11, 4, 1, 2), TAPES, ((1,), chosen)), 3)
            self.assertEqual(told, {(3, 3, 0, 2, 1): 1})

    def test_answers(self):
        told = self.told(4, ((1, 1, 2, 0, 0), ("add", 1)))
        self.assertEqual(told, {(4, 1, 0, 1, 2, 0): 2, (4, 1, 0, 2, 1, 0): 2, (4, 1, 0, 2, 3, 0): 7,
                                (4, 1, 0, 3, 2, 0): 7, (4, 1, 0, 2, 4, 0): 4, (4, 1, 0, 4, 2, 0): 4})
        self.assertEqual(self.told(4, ((3, 4, 0, 1, 2), ("is", 0)), foes=(4,)), {(4, 1, 0, 4, 2, 0): 4})
        self.assertEqual(self.told(4, ((3, 1, 0, 1, 3), ("is", 1)), ((3, 1, 0, 1, 3), ("drop",))), {})

    def test_answers_for_all_numbers(self):
        told = of_round(play((11, 4, 1, 2), TAPES, ((4,), (((3, 4, 0, 1, 2), ("is", 0)),))), 4)
        self.assertEqual(told, {(4, 1, 0, 4, 2, 0): 4, (4, 1, 0, 4, 2, 1): 0})

    def test_unhappy(self):
        self.assertEqual(self.told(5, ((1, 1, 2, 0, 0), ("add", 1))), {(5, 2, 0, 1): 1})
        complaint = ((3, 1, 0, 1, 2), ("is", 3))
        self.assertEqual(self.told(5, complaint), {})
        both = {(5, 1, 0, 1): 1, (5, 2, 0, 1): 1}
        self.assertEqual(self.told(5, complaint, ((4, 1, 0, 1, 2, 0), ("add", 1))), both)
        self.assertEqual(self.told(5, complaint, ((4, 1, 0, 1, 2, 0), ("drop",))), both)
        # Without the complaint there is no answer to be unhappy with.
        self.assertEqual(self.told(5, ((4, 1, 0, 1, 2, 0), ("is", 9))), {})
        self.assertEqual(self.told(5, complaint, ((4, 1, 0, 2, 1, 0), ("is", 9))), {})

    def test_an_answer_that_is_left_out_is_not_taken_as_zero(self):
        rules = (((3, 2, 0, 3, 4), ("is", 1)), ((4, 3, 0, 2, 4, 0), ("drop",)))
        self.assertEqual(of_round(play(SMALL, TAPES, ((2, 3), rules)), 5), {(5, 2, 0, 3): 1, (5, 4, 0, 3): 1})

    def test_opened_rows(self):
        self.assertEqual(self.told(6, ((1, 1, 2, 0, 0), ("add", 1))), {(6, 1, 0, 2, 0, 0): 5, (6, 1, 0, 2, 0, 1): 8})
        self.assertEqual(self.told(6, ((5, 1, 0, 1), ("is", 0))), {(6, 1, 0, 1, 0, 0): 3, (6, 1, 0, 1, 0, 1): 5})
        # The coefficient that is 0 is opened, too.
        self.assertEqual(self.told(6, ((5, 3, 0, 1), ("is", 7)), foes=(3,)),
                         {(6, 1, 0, 3, 0, 0): 7, (6, 1, 0, 3, 0, 1): 0})

    def test_against(self):
        bad_row = ((1, 1, 2, 0, 0), ("add", 1))
        others = {(7, 1, 0, 1): 1, (7, 3, 0, 1): 1, (7, 4, 0, 1): 1}
        self.assertEqual(self.told(7, bad_row), {})
        self.assertEqual(self.told(7, bad_row, ((6, 1, 0, 2, 0, 1), ("add", 1))), others)
        self.assertEqual(self.told(7, bad_row, ((6, 1, 0, 2, 0, 1), ("drop",))), others)
        # 5 + 8 y and 2 + 9 y have the same value at 3.
        self.assertEqual(self.told(7, bad_row, ((6, 1, 0, 2, 0, 0), ("is", 2)), ((6, 1, 0, 2, 0, 1), ("is", 9))),
                         {(7, 1, 0, 1): 1, (7, 4, 0, 1): 1})

    def test_who_is_unhappy_alone_is_not_against(self):
        rules = (((1, 1, 2, 0, 0), ("add", 1)), ((1, 1, 3, 0, 0), ("add", 1)), ((6, 1, 0, 2, 0, 0), ("drop",)))
        self.assertEqual(self.told(5, *rules), {(5, 2, 0, 1): 1, (5, 3, 0, 1): 1})
        self.assertEqual(self.told(7, *rules), {(7, 1, 0, 1): 1, (7, 4, 0, 1): 1})
        # An opened row for a party that is not unhappy does not count.
        self.assertEqual(self.told(7, ((6, 1, 0, 2, 0, 0), ("is", 4)), ((6, 1, 0, 2, 0, 1), ("is", 4))), {})

    def test_shares_use_the_opened_row(self):
        # 2 holds 6 + 8 y, and counts with the opened 5 + 8 y.
        self.assertEqual(self.told(8, ((1, 1, 2, 0, 0), ("add", 1))), ROUND_8)
        # The foe 4 says that it is unhappy, and gets opened what it has.
        self.assertEqual(self.told(8, ((5, 4, 0, 1), ("is", 1)), foes=(4,)), ROUND_8)

    def test_shares_use_the_row_that_is_held_otherwise(self):
        # The foe 2 does not say that it is unhappy with 1, and counts with its own wrong row.
        rules = (((1, 1, 2, 0, 0), ("add", 1)), ((5, 2, 0, 1), ("drop",)))
        shares = of_round(play(SMALL, TAPES, ((1, 2), rules)), 8)
        self.assertEqual(shares, {**ROUND_8, (8, 2, 0, 0): 6})

    def test_shares_without_the_dealers_that_are_out(self):
        tapes = ((1, 2, 3), (4, 5), (), (0, 1))
        self.assertEqual(of_round(play(SMALL, tapes, NO_FOES), 8),
                         {(8, 1, 0, 0): 2, (8, 2, 0, 0): 10, (8, 3, 0, 0): 7, (8, 4, 0, 0): 4})
        rules = (((1, 1, 2, 0, 0), ("add", 1)), ((6, 1, 0, 2, 0, 1), ("drop",)))
        self.assertEqual(of_round(play(SMALL, tapes, ((1,), rules)), 8),
                         {(8, 1, 0, 0): 10, (8, 2, 0, 0): 5, (8, 3, 0, 0): 0, (8, 4, 0, 0): 6})

    def test_a_dealer_is_out_for_all_numbers(self):
        setup = (11, 4, 1, 2)
        rules = (((5, 1, 0, 1), ("is", 1)), ((6, 1, 0, 1, 0, 0), ("drop",)))
        shares = of_round(play(setup, ((1, 2, 3, 4, 5, 6), (7, 0, 0, 8), (), ()), ((1,), rules)), 8)
        self.assertEqual(shares, {(8, j, 0, a): number for j in range(1, 5) for a, number in ((0, 7), (1, 8))})


class BoardTest(unittest.TestCase):
    def test_board_of_a_play(self):
        messages = play(SMALL, TAPES, NO_FOES)
        self.assertEqual(board_of(messages), tuple(ROUND_8.items()))
        self.assertEqual(board_of(()), ())

    def test_just_the_rounds_from_the_third(self):
        for seed in range(40):
            stream = Stream(3000 + seed)
            setup = setup_from(stream)
            messages = play(setup, tapes_from(stream, setup), script_from(stream, setup))
            found = board_of(messages)
            self.assertIs(type(found), tuple)
            self.assertEqual(found, tuple(message for message in messages if message[0][0] >= 3))
            self.assertEqual(found, tuple(message for message in messages if message[0][2] == 0))
            self.assertEqual(board_of(found), found)


class SeenTest(unittest.TestCase):
    def test_known_answers(self):
        messages = play((11, 2, 0, 1), ((6,), (9,)), NO_FOES)
        self.assertEqual(seen(messages, (1,), 1), messages[:2])
        self.assertEqual(seen(messages, (1,), 8), messages)
        self.assertEqual(seen(messages, (), 8), messages[-2:])
        self.assertEqual(seen(messages, (1, 2), 0), ())

    def test_own_letters_and_what_is_on_the_board(self):
        for seed in range(30):
            stream = Stream(4000 + seed)
            setup = setup_from(stream)
            messages = play(setup, tapes_from(stream, setup), script_from(stream, setup))
            for some in ((), (1,), (setup[1],), tuple(parties(setup))[:2], tuple(parties(setup))):
                for last in range(10):
                    expected = [message for message in messages if message[0][0] in range(1, last + 1)
                                and ({message[0][1], message[0][2]} & set(some) or message[0][2] == 0)]
                    found = seen(messages, some, last)
                    self.assertIs(type(found), tuple)
                    self.assertEqual(found, tuple(expected))

    def test_letters_of_others_are_not_seen(self):
        messages = play(SMALL, TAPES, NO_FOES)
        found = [address for address, _ in seen(messages, (4,), 2)]
        self.assertEqual(len(found), 6 * 2 + 6 * 4)
        self.assertTrue(all(4 in address[1:3] for address in found))


class InterfaceTest(unittest.TestCase):
    def test_interface(self):
        for function, names in ((play, ["setup", "tapes", "script"]), (board_of, ["messages"]),
                                (seen, ["messages", "parties", "last"])):
            self.assertEqual(function.__module__, dealing.__name__)
            self.assertEqual(list(inspect.signature(function).parameters), names)


if __name__ == "__main__":
    unittest.main()
