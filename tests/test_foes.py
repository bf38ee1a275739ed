"""Point 23: scripts of foes, and point 24: when and how their rules are applied."""

import unittest

from sortes.dealing import play
from tests.plain import PlainPlay, addresses
from tests.plays import NO_FOES, SMALL, TAPES
from tests.samples import Stream

# With this rule ahead, the play of SMALL and TAPES with the foe 1 has messages of the foe in each round but the
# fifth and the seventh: 2 gets a wrong row, there are complaints and answers, and 2 gets its row opened.
BAD_ROW = ((1, 1, 2, 0, 0), ("add", 1))
# A message of the foe 1 in each round that is there by the rules, or put there by the rule beside it.
THERE = {
    1: ((1, 1, 3, 0, 0), ()), 2: ((2, 1, 3, 1, 0), ()), 3: ((3, 1, 0, 1, 2), ()), 4: ((4, 1, 0, 2, 3, 0), ()),
    5: ((5, 1, 0, 1), (((4, 1, 0, 1, 2, 0), ("add", 1)),)), 6: ((6, 1, 0, 2, 0, 1), ()),
    7: ((7, 1, 0, 1), (((6, 1, 0, 2, 0, 0), ("add", 1)),)), 8: ((8, 1, 0, 0), ()),
}
# A message of the foe 1 in the rounds from the third that is not there by the rules.
NOT_THERE = {3: (3, 1, 0, 2, 3), 4: (4, 1, 0, 3, 4, 0), 5: (5, 1, 0, 4), 6: (6, 1, 0, 4, 0, 0), 7: (7, 1, 0, 3)}


def numbers_of(*rules, setup=SMALL, tapes=TAPES, foes=(1,)):
    return dict(play(setup, tapes, (foes, rules)))


class ChangeTest(unittest.TestCase):
    """Each kind of change of a message in each round."""

    def before(self, step):
        address, ahead = THERE[step]
        rules = (BAD_ROW,) + ahead
        messages = numbers_of(*rules)
        self.assertIn(address, messages)
        return address, rules, messages

    def check(self, step, rules, address, number):
        """Check that only the last rule's message of its round and of the rounds before is another one."""
        told, changed = numbers_of(*rules[:-1]), numbers_of(*rules)
        self.assertEqual(changed.get(address), number)
        for other in told.keys() | changed.keys():
            if other[0] <= step and other != address:
                self.assertEqual(changed.get(other), told.get(other), (rules, other))
        self.assertEqual(tuple(sorted(changed.items())), PlainPlay(SMALL, TAPES, ((1,), rules)).messages())

    def test_is(self):
        for step in THERE:
            address, rules, _ = self.before(step)
            for v in (0, 1, 10):
                self.check(step, rules + ((address, ("is", v)),), address, v)

    def test_is_puts_a_message_there(self):
        for step, address in NOT_THERE.items():
            self.assertNotIn(address, numbers_of(BAD_ROW))
            for v in (0, 1, 10):
                self.check(step, (BAD_ROW, (address, ("is", v))), address, v)

    def test_add(self):
        for step in THERE:
            address, rules, messages = self.before(step)
            for v in (0, 1, 10):
                self.check(step, rules + ((address, ("add", v)),), address, (messages[address] + v) % 11)

    def test_add_to_what_is_not_there(self):
        for step, address in NOT_THERE.items():
            self.check(step, (BAD_ROW, (address, ("add", 3))), address, None)

    def test_drop(self):
        for step in THERE:
            address, rules, _ = self.before(step)
            self.check(step, rules + ((address, ("drop",)),), address, None)

    def test_drop_what_is_not_there(self):
        for step, address in NOT_THERE.items():
            self.check(step, (BAD_ROW, (address, ("drop",))), address, None)

    def test_copy(self):
        for step in THERE:
            address, rules, messages = self.before(step)
            known = [other for other in messages if other[0] <= step and (1 in other[1:3] or other[2] == 0)]
            for other in known[::7] + [known[-1]]:
                self.check(step, rules + ((address, ("copy", other)),), address, messages[other])

    def test_copy_to_what_is_not_there(self):
        messages = numbers_of(BAD_ROW)
        for step, address in NOT_THERE.items():
            for other in ((1, 1, 4, 0, 0), (2, 3, 1, 1, 0), (3, 3, 0, 1, 2)):
                self.check(step, (BAD_ROW, (address, ("copy", other))), address, messages[other])

    def test_copy_what_is_not_there(self):
        for step in THERE:
            address, rules, messages = self.before(step)
            for other in ((3, 1, 0, 3, 4), (4, 1, 0, 3, 4, 0), (7, 1, 0, 4)):
                self.assertNotIn(other, messages)
                self.check(step, rules + ((address, ("copy", other)),), address, messages[address])

    def test_copy_of_a_later_round(self):
        for step in THERE:
            address, rules, messages = self.before(step)
            for other in messages:
                if other[0] > step and other[0] in (2, 3, 8) and (1 in other[1:3] or other[2] == 0):
                    self.check(step, rules + ((address, ("copy", other)),), address, messages[address])

    def test_copy_of_what_foes_may_not_see(self):
        for step in THERE:
            address, rules, messages = self.before(step)
            for other in ((1, 2, 3, 0, 0), (2, 3, 4, 1, 0), (2, 2, 3, 1, 0)):
                self.assertIn(other, messages)
                self.check(step, rules + ((address, ("copy", other)),), address, messages[address])


class CopyTest(unittest.TestCase):
    """Which messages foes may copy."""

    SETUP = (31, 7, 2, 1)
    TAPES = tuple(Stream(i).numbers(31, 6) for i in range(1, 8))
    FOES = (2, 5)

    def copied(self, address, other, *ahead):
        rules = ahead + ((address, ("copy", other)),)
        return numbers_of(*rules, setup=self.SETUP, tapes=self.TAPES, foes=self.FOES)[address]

    def setUp(self):
        self.messages = dict(play(self.SETUP, self.TAPES, (self.FOES, ())))
        self.target = (8, 2, 0, 0)

    def test_all_letters(self):
        copied = refused = 0
        for other, number in self.messages.items():
            if other[0] in (1, 2) and (other[0] == 1 or other[3] in (2, 4)):
                known = other[1] in self.FOES or other[2] in self.FOES
                self.assertEqual(self.copied(self.target, other), number if known else self.messages[self.target])
                copied += known and number != self.messages[self.target]
                refused += not known and number != self.messages[self.target]
        self.assertGreater(copied, 50)
        self.assertGreater(refused, 50)

    def test_posts_of_all_parties_in_the_same_round(self):
        for j in range(1, 8):
            self.assertEqual(self.copied(self.target, (8, j, 0, 0)), self.messages[8, j, 0, 0])
        self.assertGreater(len({self.messages[8, j, 0, 0] for j in range(1, 8)}), 4)

    def test_what_others_have_just_sent_to_the_foes(self):
        self.assertEqual(self.copied((1, 2, 1, 0, 2), (1, 6, 5, 0, 1)), self.messages[1, 6, 5, 0, 1])
        self.assertEqual(self.copied((2, 5, 1, 3, 0), (2, 6, 2, 1, 0)), self.messages[2, 6, 2, 1, 0])

    def test_of_an_earlier_round(self):
        self.assertEqual(self.copied((2, 5, 1, 3, 0), (1, 7, 2, 0, 1)), self.messages[1, 7, 2, 0, 1])
        self.assertEqual(self.copied((5, 2, 0, 3), (2, 1, 5, 1, 0)), self.messages[2, 1, 5, 1, 0])

    def test_in_the_same_round_after_the_rules_ahead(self):
        source = (8, 5, 0, 0)
        self.assertEqual(self.copied(self.target, source, (source, ("is", 17))), 17)
        self.assertEqual(self.copied(self.target, source, (source, ("add", 30))), (self.messages[source] - 1) % 31)
        self.assertEqual(self.copied(self.target, source, (source, ("drop",))), self.messages[self.target])
        self.assertEqual(self.copied(self.target, source, (source, ("copy", (8, 1, 0, 0)))),
                         self.messages[8, 1, 0, 0])

    def test_in_the_same_round_ahead_of_later_rules(self):
        source = (8, 5, 0, 0)
        rules = ((self.target, ("copy", source)), (source, ("is", (self.messages[source] + 1) % 31)))
        told = numbers_of(*rules, setup=self.SETUP, tapes=self.TAPES, foes=self.FOES)
        self.assertEqual(told[self.target], self.messages[source])

    def test_of_an_earlier_round_after_all_of_its_rules(self):
        source = (1, 5, 3, 0, 0)
        rules = ((self.target, ("copy", source)), (source, ("is", (self.messages[source] + 1) % 31)))
        told = numbers_of(*rules, setup=self.SETUP, tapes=self.TAPES, foes=self.FOES)
        self.assertEqual(told[self.target], (self.messages[source] + 1) % 31)

    def test_of_itself(self):
        self.assertEqual(self.copied(self.target, self.target), self.messages[self.target])


class RulesTest(unittest.TestCase):
    """Several rules, and the rounds to which they belong."""

    ADDRESS = (8, 1, 0, 0)

    def test_several_rules_for_one_address(self):
        share = self.ADDRESS
        for changes, number in (
                ((("is", 5), ("add", 3)), 8), ((("add", 3), ("is", 5)), 5), ((("add", 9), ("add", 9)), 10),
                ((("drop",), ("add", 3)), None), ((("add", 3), ("drop",)), None), ((("drop",), ("is", 2)), 2),
                ((("is", 2), ("drop",)), None), ((("drop",), ("drop",)), None), ((("is", 4), ("is", 6)), 6),
                ((("drop",), ("is", 2), ("add", 1), ("drop",), ("add", 4), ("is", 9), ("add", 4)), 2),
                ((("drop",), ("copy", (8, 4, 0, 0))), 9), ((("copy", (8, 4, 0, 0)), ("add", 1)), 10),
                ((("drop",), ("copy", (1, 2, 3, 0, 0))), None), ((("drop",), ("copy", (8, 1, 0, 0))), None)):
            rules = tuple((share, change) for change in changes)
            self.assertEqual(numbers_of(*rules).get(share), number, changes)

    def test_order_counts_in_one_round_only(self):
        rules = (((8, 1, 0, 0), ("add", 1)), ((6, 1, 0, 2, 0, 0), ("add", 1)), ((2, 1, 2, 3, 0), ("add", 1)), BAD_ROW,
                 ((4, 1, 0, 2, 3, 0), ("add", 2)), ((1, 1, 3, 0, 1), ("drop",)))
        told = numbers_of(*rules)
        self.assertEqual(numbers_of(*rules[::-1]), told)
        self.assertEqual(numbers_of(*sorted(rules)), told)

    def test_foes_without_rules_keep_the_rules(self):
        self.assertEqual(play(SMALL, TAPES, ((1,), ())), play(SMALL, TAPES, NO_FOES))

    def test_foes_do_not_know_better_than_what_they_were_sent(self):
        # The foe 2 gets a wrong row from the foe 1, and complains and is unhappy as others would be.
        setup = (11, 7, 2, 1)
        tapes = ((1, 2, 3, 4, 5, 6),) + ((),) * 6
        told = numbers_of(BAD_ROW, setup=setup, tapes=tapes, foes=(1, 2))
        self.assertIn((3, 2, 0, 1, 3), told)
        self.assertIn((5, 2, 0, 1), told)
        self.assertEqual(told, dict(play(setup, tapes, ((1,), (BAD_ROW,)))))

    def test_later_rounds_follow_from_the_changed_messages(self):
        self.assertEqual(numbers_of(BAD_ROW)[2, 2, 3, 1, 0], 8)
        self.assertEqual(numbers_of(((1, 1, 2, 0, 0), ("is", 5))), numbers_of())

    def test_what_is_put_there_counts_whatever_its_number(self):
        for v in range(11):
            told = numbers_of(((3, 4, 0, 1, 2), ("is", v)), ((5, 4, 0, 1), ("is", v)), foes=(4,))
            self.assertEqual(told[4, 1, 0, 4, 2, 0], 4)
            self.assertEqual((told[6, 1, 0, 4, 0, 0], told[6, 1, 0, 4, 0, 1]), (9, 3))

    def test_forty_rules(self):
        rules = tuple((self.ADDRESS, ("add", 1)) for _ in range(40))
        self.assertEqual(numbers_of(*rules)[self.ADDRESS], 43 % 11)
        self.assertEqual(numbers_of(*rules, *rules)[self.ADDRESS], 83 % 11)

    def test_rules_for_every_address_of_a_round(self):
        for step in range(1, 9):
            own = [address for address in addresses(SMALL, step) if address[1] == 1]
            for change in (("is", 6), ("drop",)):
                rules = tuple((address, change) for address in own)
                told = play(SMALL, TAPES, ((1,), rules))
                self.assertEqual(told, PlainPlay(SMALL, TAPES, ((1,), rules)).messages())
                self.assertEqual([dict(told).get(address) for address in own],
                                 [6 if change == ("is", 6) else None] * len(own))


if __name__ == "__main__":
    unittest.main()
