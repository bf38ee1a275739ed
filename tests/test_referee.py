"""Points 20 and 23: what a script is; and point 26: whether somebody tells what was drawn."""

import inspect
import unittest

from sortes import referee
from sortes.dealing import board_of, play
from sortes.opening import numbers
from sortes.referee import is_drawn, is_script
from tests.plain import PlainBoard, addresses, parties
from tests.plays import (NO_FOES, SMALL, TAPES, change_from, changed_board, script_from, setup_from, tapes_from,
                         with_posts, without)
from tests.samples import Stream
from tests.values import DEEP, DEEP_BEHIND, STRANGE, neighbours, replaced

SETUP = (13, 7, 2, 3)
FOES = (2, 5)
# An address of a foe for each round.
OWN = {1: (1, 2, 3, 0, 1), 2: (2, 5, 1, 4, 2), 3: (3, 2, 0, 5, 7), 4: (4, 5, 0, 1, 3, 2), 5: (5, 2, 0, 2),
       6: (6, 5, 0, 5, 1, 2), 7: (7, 2, 0, 6), 8: (8, 5, 0, 0)}
CHANGES = (("is", 0), ("is", 12), ("add", 0), ("add", 12), ("drop",), ("copy", (1, 2, 3, 0, 1)))


class ScriptCase(unittest.TestCase):
    def check(self, expected, value, setup=SETUP):
        # Values are not shown: some are too deep for this.
        self.assertIs(is_script(setup, value), expected)

    def check_rule(self, expected, rule, foes=FOES, setup=SETUP):
        self.check(expected, (foes, (rule,)), setup)
        self.check(expected, (foes, (((8, foes[0], 0, 0), ("drop",)), rule)), setup)


class ScriptTest(ScriptCase):
    def test_no_rules(self):
        self.check(True, NO_FOES)
        self.check(True, (FOES, ()))
        self.check(True, NO_FOES, (11, 1, 0, 1))

    def test_rules_of_every_round_with_every_change(self):
        rules = tuple((address, change) for address in OWN.values() for change in CHANGES)
        for rule in rules:
            self.check_rule(True, rule)
        self.check(True, (FOES, rules[:40]))
        self.check(True, (FOES, rules[:7:-1]))

    def test_scripts_of_other_tests(self):
        for seed in range(200):
            stream = Stream(seed)
            setup = setup_from(stream)
            self.check(True, script_from(stream, setup), setup)

    def test_many_rules(self):
        rule = (OWN[1], ("add", 1))
        for many in (1, 39, 40):
            self.check(True, (FOES, (rule,) * many))
        for many in (41, 42, 1000):
            self.check(False, (FOES, (rule,) * many))

    def test_one_wrong_rule_among_good_ones(self):
        rule, wrong = (OWN[1], ("add", 1)), (OWN[1], ("add", 13))
        for at in range(40):
            self.check(False, (FOES, (rule,) * at + (wrong,) + (rule,) * (39 - at)))

    def test_foes(self):
        for foes in ((), (1,), (7,), (1, 2), (2, 5), (6, 7)):
            self.check(True, (foes, ()))
        for foes in ((1, 2, 3), (2, 2), (5, 2), (7, 1), (0,), (8,), (0, 1), (7, 8), (-1, 2), (2, 13)):
            self.check(False, (foes, ()))
        for part in STRANGE:
            expected = part == 1 if isinstance(part, int) else False
            self.check(expected, ((part,), ()))
            self.check(expected, ((part, 7), ()))
            self.check(False, ((3, part), ()))

    def test_as_many_foes_as_there_may_be(self):
        for setup in ((11, 1, 0, 1), (11, 7, 0, 1), (11, 4, 1, 1), (11, 7, 1, 1), (11, 7, 2, 1)):
            for many in range(4):
                foes = tuple(range(1, many + 1))
                self.check(many <= setup[2], (foes, ()), setup)

    def test_a_sender_that_is_no_foe(self):
        for step, address in OWN.items():
            for j in range(-1, 10):
                moved = replaced(address, 1, j)
                self.check_rule(j in FOES and moved in addresses(SETUP, step), (moved, ("drop",)))
            self.check(False, ((), ((address, ("drop",)),)))
            self.check(address[1] == 2, ((2,), ((address, ("drop",)),)))

    def test_values_that_are_no_scripts(self):
        for value in STRANGE:
            self.check(False, value)
            self.check(value == () or value == (1, 2), (value, ()))
            self.check(value == (), (FOES, value))
            self.check(False, (value,))
            self.check(False, (FOES, (), value))
            self.check(False, (FOES, (value,)))
        self.check(False, ((), ((), ())))
        self.check(False, (FOES, (OWN[1], ("drop",))))

    def test_each_part_replaced(self):
        # Parts that are right in no place of these scripts; those that are, have tests of their own.
        parts = (None, "", "b", "Is", (), (None,), ((),), 13, -1, 10 ** 30, DEEP, DEEP_BEHIND)
        for rule in ((OWN[1], ("is", 5)), (OWN[4], ("add", 5)), (OWN[6], ("copy", OWN[7]))):
            for changed in neighbours(rule, parts):
                right = changed == rule or changed in ((OWN[1], ("is", 5)), (OWN[4], ("add", 5)))
                if not right and not self.is_plain_rule(changed):
                    self.check_rule(False, changed)
                else:
                    self.check_rule(True, changed)

    def is_plain_rule(self, rule):
        """Whether a rule is one, for those in which just a part was doubled or left out."""
        if not isinstance(rule, tuple) or len(rule) != 2 or not isinstance(rule[0], tuple):
            return False
        own = [address for step in range(1, 9) for address in addresses(SETUP, step) if address[1] in FOES]
        return rule[0] in own and self.is_plain_change(rule[1])

    def is_plain_change(self, change):
        if change == ("drop",):
            return True
        if not isinstance(change, tuple) or len(change) != 2:
            return False
        if change[0] == "copy":
            return any(change[1] in addresses(SETUP, step) for step in range(1, 9))
        return change[0] in ("is", "add") and change[1] in range(13)


class AddressTest(ScriptCase):
    def test_all_addresses_of_foes(self):
        for setup, foes in (((11, 4, 1, 2), (3,)), ((11, 7, 2, 1), (1, 7))):
            for step in range(1, 9):
                for address in addresses(setup, step):
                    self.check(address[1] in foes, (foes, ((address, ("drop",)),)), setup)
                    self.check(True, (foes, (((8, foes[0], 0, 0), ("copy", address)),)), setup)

    def test_each_part_at_its_bounds_and_beyond(self):
        for setup in ((11, 4, 1, 2), (13, 5, 1, 1), (11, 7, 2, 6)):
            foes = (2,)
            known = {address for step in range(1, 9) for address in addresses(setup, step)}
            own = {step: max(a for a in known if a[0] == step and a[1] == 2) for step in range(1, 9)}
            for address in own.values():
                for at in range(len(address)):
                    for part in range(-2, 12):
                        changed = replaced(address, at, part)
                        self.check(changed in known and changed[1] == 2, (foes, ((changed, ("drop",)),)), setup)
                        copying = ((8, 2, 0, 0), ("copy", changed))
                        self.check(changed in known, (foes, (copying,)), setup)

    def test_j_and_k_equal(self):
        for address in ((1, 2, 2, 0, 1), (2, 5, 5, 4, 2), (3, 2, 0, 5, 2), (4, 5, 0, 3, 3, 2)):
            self.check_rule(False, (address, ("drop",)))
            self.check_rule(False, (OWN[8], ("copy", address)))

    def test_a_dealer_and_a_party_equal(self):
        for address in ((2, 5, 1, 5, 2), (2, 5, 1, 1, 2), (3, 2, 0, 2, 7), (3, 2, 0, 7, 7), (4, 5, 0, 5, 3, 2),
                        (4, 5, 0, 3, 5, 2), (5, 2, 0, 2), (6, 5, 0, 5, 1, 2), (7, 2, 0, 2)):
            self.check_rule(True, (address, ("drop",)))
            self.check_rule(True, (OWN[8], ("copy", address)))

    def test_no_places_without_foes(self):
        self.check(False, ((1,), (((1, 1, 2, 0, 0), ("drop",)),)), (11, 2, 0, 1))
        self.check(True, ((1,), (((1, 1, 2, 0, 1), ("drop",)),)), (11, 4, 1, 1))
        self.check(False, ((1,), (((1, 1, 2, 0, 2), ("drop",)),)), (11, 4, 1, 1))

    def test_a_part_too_many_or_too_few(self):
        for address in OWN.values():
            for changed in [address[:many] for many in range(len(address))] + [address + (0,), address + (1,)]:
                self.check_rule(False, (changed, ("drop",)))
                self.check_rule(False, (OWN[8], ("copy", changed)))

    def test_no_integers_in_addresses(self):
        for address in OWN.values():
            for at in range(len(address)):
                for part in (None, "", "1", "2", (), (2,), DEEP, DEEP_BEHIND):
                    self.check_rule(False, (replaced(address, at, part), ("drop",)))
                    self.check_rule(False, (OWN[8], ("copy", replaced(address, at, part))))


class ChangeTest(ScriptCase):
    def test_numbers(self):
        for p in (11, 13, 17, 31, 101):
            for word in ("is", "add"):
                for v in range(-2, p + 3):
                    self.check_rule(0 <= v < p, (OWN[2], (word, v)), setup=(p, 7, 2, 3))
                self.check_rule(False, (OWN[2], (word, 10 ** 40)), setup=(p, 7, 2, 3))
                for v in (None, "", "1", (), (1,), DEEP):
                    self.check_rule(False, (OWN[2], (word, v)), setup=(p, 7, 2, 3))

    def test_words(self):
        for word in ("", "IS", "is ", "drop", "copy", "set", None, 0, (), ("is",), DEEP):
            self.check_rule(False, (OWN[3], (word, 1)))
        for word in ("", "is", "add", "copy", "Drop", "drop ", None, 0, (), ("drop",), DEEP):
            self.check_rule(False, (OWN[3], (word,)))

    def test_lengths(self):
        for change in ((), ("drop", 1), ("drop", None), ("drop", "drop"), ("is",), ("add",), ("copy",), ("is", 1, 1),
                       ("add", 1, 1), ("copy", OWN[1], OWN[1]), ("copy",) + OWN[1], ("drop", ()), "drop", "is", 1,
                       None):
            self.check_rule(False, (OWN[3], change))

    def test_copy_of_any_sender_and_round(self):
        for step in OWN:
            for other in ((1, 1, 3, 2, 2), (2, 7, 6, 5, 0), (3, 1, 0, 1, 2), (4, 3, 0, 1, 2, 0), (5, 1, 0, 7),
                          (6, 3, 0, 1, 2, 2), (7, 7, 0, 7), (8, 4, 0, 2)):
                self.check_rule(True, (OWN[step], ("copy", other)))

    def test_copy_of_what_is_no_address(self):
        for other in STRANGE + ((0, 2, 3, 0, 1), (9, 2, 0, 1), (1, 2, 0, 0, 1), (8, 5, 1, 0), (8, 5, 0, 3),
                                (8, 8, 0, 0),
                                (1, 3, 4, 0, 3), (5, 0, 0, 1), OWN[1] + (0,), (OWN[1],), (OWN[1], ("drop",))):
            self.check_rule(False, (OWN[3], ("copy", other)))

    def test_random_changes_and_their_neighbours(self):
        for seed in range(60):
            stream = Stream(300 + seed)
            step = 1 + stream.below(8)
            change = change_from(stream, SETUP, step)
            self.check_rule(True, (OWN[step], change))
            self.check_rule(False, (OWN[step], change + (change[-1],)))
            self.check_rule(False, (OWN[step], change[::-1] if len(change) == 2 else ()))


class DrawnTest(unittest.TestCase):
    def check(self, expected, setup, board, told):
        self.assertIs(is_drawn(setup, board, told), expected)

    def check_board(self, setup, board):
        """Check what is told of a board beside what is drawn."""
        drawn = PlainBoard(setup, dict(board)).numbers()
        p, m = setup[0], setup[3]
        if drawn is None:
            for told in STRANGE + ((0,) * m, (None,) * m):
                self.check(False, setup, board, told)
            return False
        self.check(True, setup, board, tuple(list(drawn)))
        self.check(False, setup, board, drawn[:-1])
        self.check(False, setup, board, drawn + (0,))
        self.check(False, setup, board, drawn + (None,))
        self.check(False, setup, board, (drawn,))
        for at in range(m):
            for part in ((drawn[at] + 1) % p, drawn[at] + p, drawn[at] - p, None, str(drawn[at]), (drawn[at],), (),
                         DEEP):
                self.check(False, setup, board, replaced(drawn, at, part))
        for told in STRANGE:
            if told != drawn:
                self.check(False, setup, board, told)
        return True

    def test_known_answers(self):
        board = board_of(play((11, 4, 1, 2), ((1, 2, 3, 4, 5, 6), (), (), ()), NO_FOES))
        self.check(True, (11, 4, 1, 2), board, (1, 4))
        for told in ((4, 1), (1,), (1, 4, 0), (1, 15), (12, 4), (), ("1", "4"), "14", "(1, 4)", (1, None), ((1, 4),),
                     14,
                     1, 0, None):
            self.check(False, (11, 4, 1, 2), board, told)

    def test_every_number(self):
        board = board_of(play(SMALL, TAPES, NO_FOES))
        for told in range(-13, 30):
            self.check(told == 1, SMALL, board, (told,))
            self.check(False, SMALL, board, told)

    def test_boards_of_plays_and_changed_ones(self):
        found = {True: 0, False: 0}
        for seed in range(80):
            stream = Stream(400 + seed)
            setup = setup_from(stream)
            board = board_of(play(setup, tapes_from(stream, setup), script_from(stream, setup)))
            self.assertTrue(self.check_board(setup, board))
            changed = changed_board(stream, setup, board)
            shares = [address for address, _ in changed if address[0] == 8]
            for few in (changed, without(changed, *shares[:3]), without(changed, *shares[::2])):
                found[self.check_board(setup, few)] += 1
        self.assertGreater(min(found.values()), 20)

    def test_nothing_is_drawn(self):
        self.check_board(SMALL, ())
        for told in ((), (0,), (None,), None, 0, "None"):
            self.check(False, SMALL, (), told)
            self.check(False, SMALL, (((8, 1, 0, 0), 0),), told)
        setup = (13, 4, 1, 2)
        board = tuple(((8, j, 0, a), 3) for j in parties(setup) for a in range(2))
        self.check(True, setup, board, (3, 3))
        for told in ((3, 3), (3, None), (3,), None, (None, None)):
            self.check(False, setup, without(board, (8, 1, 0, 1), (8, 2, 0, 1)), told)

    def test_a_share_left_out_or_changed(self):
        setup = (13, 4, 1, 2)
        board = tuple(((8, j, 0, a), 3) for j in parties(setup) for a in range(2))
        for address, _ in board:
            self.check(True, setup, without(board, address), (3, 3))
            self.check(True, setup, with_posts(board, (address, 5)), (3, 3))

    def test_what_the_program_tells(self):
        for seed in range(40):
            stream = Stream(500 + seed)
            setup = setup_from(stream)
            board = changed_board(stream, setup, board_of(play(setup, tapes_from(stream, setup), NO_FOES)))
            told = numbers(setup, board)
            self.check(told is not None, setup, board, told)


class FormTest(unittest.TestCase):
    def test_answers_do_not_depend_on_earlier_calls(self):
        values = [NO_FOES, (FOES, ()), (FOES, ((OWN[1], ("is", 13)),)), (FOES, ((OWN[1], ("is", 12)),)), DEEP, None]
        told = [is_script(SETUP, value) for value in values]
        self.assertEqual(told, [True, True, False, True, False, False])
        self.assertEqual([is_script(SETUP, value) for value in values[::-1]], told[::-1])

    def test_beyond_the_limits(self):
        self.assertIs(is_script((11, 8, 3, 7), ((1, 2, 8), (((1, 8, 1, 6, 3), ("is", 10)),))), True)
        self.assertIs(is_script((11, 8, 3, 7), ((1, 2, 8), (((1, 8, 1, 7, 3), ("is", 10)),))), False)
        self.assertIs(is_script((11, 0, 0, 0), ((), ())), True)

    def test_interface(self):
        for function, names in ((is_drawn, ["setup", "board", "told"]), (is_script, ["setup", "value"])):
            self.assertEqual(function.__module__, referee.__name__)
            self.assertEqual(list(inspect.signature(function).parameters), names)


if __name__ == "__main__":
    unittest.main()
