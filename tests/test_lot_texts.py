"""Point 56: texts of lots."""

import inspect
import itertools
import re
import unittest

from sortes import lot_texts
from sortes.errors import LimitError, ParseError
from sortes.lot_texts import parse_lot, print_lot
from sortes.lots import is_lot
from tests.great_lots import A, ALL_TOO_GREAT
from tests.plain_lots import NAMES, lot_from
from tests.samples import Stream

KNOWN = (
    (A, "(sure a)"),
    (("among", ((2, A), (0, ("sure", "b")))), "(among (2 (sure a)) (0 (sure b)))"),
    (("both", (A, ("sure", "B2"))), "(both (sure a) (sure B2))"),
    (("order", ("a", "b", "7")), "(order a b 7)"),
    (("draw", 2, ("a", "b")), "(draw 2 a b)"),
    (("set", 0, ("a",)), "(set 0 a)"),
    (("again", 12, ("1", "0")), "(again 12 1 0)"),
    (("prizes", 1, (("a", 100), ("b", 3))), "(prizes 1 (a 100) (b 3))"),
    (("seats", 1000, (("a", 100000), ("b", 0))), "(seats 1000 (a 100000) (b 0))"),
    (("both", (("among", ((10, ("both", (A,))), (1, ("seats", 3, (("x", 1),))))),)),
     "(both (among (10 (both (sure a))) (1 (seats 3 (x 1)))))"),
)
# Names that are words, and names of digits alone.
ODD = (("sure", "sure"), ("order", ("order", "among", "both", "sure")), ("draw", 1, ("1", "01", "001")),
       ("among", ((1, ("sure", "among")),)), ("prizes", 1, (("1", 2), ("2", 1))), ("seats", 0, (("00", 1), ("set", 0))))


def great_lot():
    """A lot with a text of more than 4000 characters."""
    pairs = tuple(("name000" + str(at)[-1] if at < 10 else "name00" + str(at), 100000) for at in range(12))
    return ("both", (("both", tuple(("seats", 1000, pairs) for _ in range(12))),
                     ("both", tuple(("seats", 1000, pairs) for _ in range(8)))))


class TextCase(unittest.TestCase):
    def check(self, e, *texts):
        for text in texts:
            self.assertEqual(parse_lot(text), e, text)

    def check_wrong(self, *texts):
        for text in texts:
            with self.assertRaises(ParseError) as caught:
                parse_lot(text)
            self.assertEqual(caught.exception.at, 0, text)


class PrintTest(TextCase):
    def test_known_texts(self):
        for e, text in KNOWN:
            self.assertEqual(print_lot(e), text)
            self.check(e, text)

    def test_names_that_are_words_or_numbers(self):
        for e in ODD:
            self.assertTrue(is_lot(e))
            self.check(e, print_lot(e))

    def test_random_lots(self):
        for seed in range(600):
            e = lot_from(Stream(seed), 5)
            text = print_lot(e)
            if is_lot(e) and len(text) <= 4000:
                self.check(e, text)
            # One space ahead of each word and each bracket that opens, but behind one and at the beginning.
            words = re.findall("[()]|[^() ]+", text)
            told = "".join(word if word == ")" or at == 0 or words[at - 1] == "(" else " " + word
                           for at, word in enumerate(words))
            self.assertEqual(text, told)

    def test_great_lots(self):
        for e in ALL_TOO_GREAT:
            self.check(e, print_lot(e))

    def test_a_text_with_more_than_4000_characters(self):
        e = great_lot()
        self.assertTrue(is_lot(e))
        text = print_lot(e)
        self.assertGreater(len(text), 4000)
        self.assertEqual(text.count("(seats 1000 (name0000 100000) "), 20)
        self.assertRaises(LimitError, parse_lot, text)


class SpaceTest(TextCase):
    def test_spaces_and_newlines_everywhere(self):
        for e, text in KNOWN:
            words = re.findall("[()]|[^() ]+", text)
            for space in (" ", "\n", "  ", "\n\n", " \n", "\n \n  "):
                self.check(e, space.join(words), space + space.join(words), space.join(words) + space,
                           text.replace(" ", space))

    def test_spaces_of_any_length_at_each_place(self):
        for e, text in KNOWN:
            words = re.findall("[()]|[^() ]+", text)
            for at in range(len(words) + 1):
                for space in (" ", "\n", "   ", " \n "):
                    self.check(e, " ".join(words[:at]) + space + " ".join(words[at:]))

    def test_no_spaces_beside_brackets(self):
        for e, text in KNOWN:
            self.check(e, text.replace(" (", "(").replace(") ", ")"))
        self.check(KNOWN[1][0], "(among(2(sure a))(0(sure b)))")
        self.check(KNOWN[7][0], "(prizes 1(a 100)(b 3))")

    def test_random_spaces(self):
        for seed in range(200):
            stream = Stream(seed)
            e = lot_from(stream, 4)
            text = ""
            for word in re.findall("[()]|[^() ]+", print_lot(e)):
                beside = word in "()" or text == "" or text[-1] in "()"
                text += "".join(" \n"[stream.below(2)] for _ in range(stream.below(3) + (0 if beside else 1))) + word
            if is_lot(e) and len(text) <= 4000:
                self.check(e, text)

    def test_other_characters_are_no_spaces(self):
        for number in itertools.chain(range(10), range(11, 32), (127,)):
            c = chr(number)
            self.check_wrong("(sure" + c + "a)", "(sure a)" + c, c + "(sure a)", "(sure a" + c + ")",
                             "(" + c + "sure a)",
                             "(order a" + c + "b)", "(draw 1" + c + "a)")

    def test_words_without_space_between(self):
        self.check_wrong("(surea)", "(order)", "(draw1 a)", "(drawa)", "(draw 1a)")


class WrongTextTest(TextCase):
    def test_no_lots(self):
        self.check_wrong("", " ", "\n", "(", ")", "()", "(())", "a", "sure a", "sure", "(a)", "(sure)", ")(",
                         ")sure a(",
                         "(sure a", "sure a)", "(sure a))", "((sure a))", "((sure a)", "(sure a)(sure a)", "(sure a) a",
                         "a (sure a)", "(sure a) ()", "() (sure a)", "(sure (a))", "((sure) a)", "(sure a b)",
                         "(Sure a)",
                         "(SURE a)", "(both)", "(among)", "(order)", "(draw)", "(draw 1)", "(again 0)", "(set)",
                         "(prizes)",
                         "(prizes 0)", "(seats)", "(seats 1)", "(between 1 a)", "(1 a)", "(draw a 1)", "(draw 1 (a))",
                         "(both a)", "(both (a))", "(both ())", "(among (sure a))", "(among ((sure a) 1))",
                         "(among 1 (sure a))",
                         "(among (1 (sure a) (sure b)))", "(among (1 sure a))", "(among (1))", "(among ())",
                         "(prizes 1 a 1)",
                         "(prizes 1 (1))", "(prizes 1 (a 1 1))", "(prizes 1 ((a) 1))", "(prizes 1 ())",
                         "(seats 1 (a (1)))",
                         "(order (a b))", "(draw (1) a)", "(draw 1 1 1)", "(sure ())", "(seats (1) (a 1))",
                         "('sure', 'a')", "(sure 'a')", "(sure \"a\")", "(sure, a)", "(sure a.)", "[sure a]",
                         "(sure a_b)")

    def test_not_by_point_50(self):
        self.check_wrong("(order a a)", "(sure abcdefghi)", "(draw 3 a b)", "(set 2 a)", "(again 13 a)",
                         "(prizes 2 (a 1))",
                         "(prizes 1 (a 0))", "(prizes 1 (a 101))", "(prizes 1 (a 1) (a 2))", "(seats 1001 (a 1))",
                         "(seats 1 (a 0))", "(seats 1 (a 100001))", "(seats 1 (a 1) (a 0))", "(among (0 (sure a)))",
                         "(among (1001 (sure a)))", "(among (1 (sure a)) (0 (draw 2 a)))",
                         "(order a b c d e f g h i j k l m)",
                         "(prizes 1 (a 1) (b 1) (c 1) (d 1) (e 1) (f 1))", "(both" + " (sure a)" * 13 + ")",
                         "(both " * 6 + "(sure a)" + ")" * 6)
        self.check(("both", (A,) * 12), "(both" + " (sure a)" * 12 + ")")
        twelve = "(both" + " (sure a)" * 11 + ")"
        inner = ("both", (A,) * 11)
        self.check(("both", (inner, inner) + (A,) * 5), "(both" + twelve * 2 + "(sure a)" * 5 + ")")
        self.check_wrong("(both" + twelve * 2 + "(sure a)" * 6 + ")")

    def test_deep(self):
        for many in range(1, 10):
            for head, tail in (("(both ", ")"), ("(among (1 ", "))")):
                text = head * (many - 1) + "(sure a)" + tail * (many - 1)
                if many <= 6:
                    self.assertEqual(print_lot(parse_lot(text)), text)
                else:
                    self.check_wrong(text)
        self.check_wrong("(both " * 500 + "(sure a)" + ")" * 500, "(among(1" * 390 + "(sure a)" + "))" * 390,
                         "(both(among(1" * 240 + "(sure a)" + ")))" * 240)

    def test_numbers(self):
        for text in ("(draw # a b)", "(set # a b)", "(again # a b)", "(prizes # (a 1) (b 2))", "(prizes 1 (a #))",
                     "(seats # (a 1))", "(seats 1 (a #))", "(among (# (sure a)))"):
            self.assertTrue(is_lot(parse_lot(text.replace("#", "1"))))
            self.check_wrong(*[text.replace("#", word) for word in (
                "01", "001", "00", "+1", "-1", "1.0", "1a", "a", "0x1", "1_0", "1e1", "", "()", "(1)", "one", "1000001",
                "1" * 30, "9" * 900, "0" * 900, "0000001", "- 1", "1 1", "\u0661", "\u00b2")
                if (word, text) not in (("1 1", "(draw # a b)"), ("1 1", "(set # a b)"), ("1 1", "(again # a b)"))])
        self.check(("draw", 0, ("a",)), "(draw 0 a)")
        self.check(("again", 10, ("a",)), "(again 10 a)")
        self.check(("seats", 1000, (("a", 100000),)), "(seats 1000 (a 100000))")
        # Behind a number s, digits are names.
        self.check(("draw", 1, ("1", "a", "b")), "(draw 1 1 a b)")
        self.check(("draw", 1, ("01", "00")), "(draw 1 01 00)")

    def test_signs_and_words_left_out_put_in_or_changed(self):
        for e, text in KNOWN:
            for at in range(len(text)):
                for put_in in ("", "(", ")", "-", "#", ".", "'"):
                    changed = text[:at] + put_in + text[at + 1:]
                    if changed != text:
                        self.check_same_or_wrong(e, changed)
                for put_in in ("(", ")", "()", "-", ","):
                    self.check_wrong(text[:at] + put_in + text[at:])
            words = re.findall("[()]|[^() ]+", text)
            for at, put_in in itertools.product(range(len(words)), ("(", ")", "among", "abcdefghi", "1000001", "a-b")):
                self.check_same_or_wrong(e, " ".join(words[:at] + [put_in] + words[at:]))
                self.check_same_or_wrong(e, " ".join(words[:at] + [put_in] + words[at + 1:]))
            for at in range(len(words)):
                self.check_same_or_wrong(e, " ".join(words[:at] + words[at + 1:]))

    def check_same_or_wrong(self, e, text):
        """A changed text is of no lot; or of one that has just this text, but for spaces."""
        try:
            told = parse_lot(text)
        except ParseError as wrong:
            self.assertEqual(wrong.at, 0)
            return
        self.assertTrue(is_lot(told), text)
        self.assertEqual(re.findall("[()]|[^() \n]+", print_lot(told)), re.findall("[()]|[^() \n]+", text))

    def test_what_is_parsed_has_just_this_text(self):
        words = ("(", ")", "sure", "both", "order", "draw", "1", "a", "(sure", "a)", "(among", "(1", "(sure a)", "))")
        right = 0
        for seed in range(3000):
            stream = Stream(seed)
            text = "(" + " ".join(words[stream.below(len(words))] for _ in range(1 + stream.below(6))) + ")"
            try:
                self.check_same_or_wrong(A, text)
                parse_lot(text)
                right += 1
            except ParseError:
                pass
        self.assertGreater(right, 30)


class LengthTest(TextCase):
    def test_4000_and_4001_characters(self):
        for e, text in KNOWN:
            self.check(e, text + " " * (4000 - len(text)), "\n" * (4000 - len(text)) + text)
            self.assertRaises(LimitError, parse_lot, text + " " * (4001 - len(text)))
            self.assertRaises(LimitError, parse_lot, "\n" * (4001 - len(text)) + text)

    def test_length_before_all_else(self):
        for text in ("(" * 4001, ")" * 4001, "a" * 4001, " " * 4001, "(sure a" + "#" * 4000,
                     "(draw 1" + "1" * 5000 + " a)",
                     "(" * 10 ** 6):
            self.assertRaises(LimitError, parse_lot, text)

    def test_wrong_texts_with_4000_characters(self):
        self.check_wrong("(" * 4000, ")" * 4000, "()" * 2000, "(" * 2000 + ")" * 2000, "a" * 4000, " " * 4000,
                         "(draw " + "1" * 3991 + " a)", "(draw " + "0" * 3991 + " a)", "(sure " + "a" * 3993 + ")",
                         "(both(sure a)" * 280 + ")" * 280, "(both " * 570 + ")" * 570, "(order" + " a" * 1990 + ")",
                         "(draw 1" + "(" * 1990 + ")" * 1990 + ")")


class FormTest(TextCase):
    def test_a_great_lot_is_returned(self):
        for e in ALL_TOO_GREAT:
            self.assertEqual(parse_lot(print_lot(e)), e)

    def test_kinds_of_values(self):
        self.assertEqual(repr(parse_lot("(among (2 (seats 3 (a 1) (b 0))) (0 (draw 0 c)))")),
                         "('among', ((2, ('seats', 3, (('a', 1), ('b', 0)))), (0, ('draw', 0, ('c',)))))")
        self.assertEqual(repr(parse_lot("(both (order x))")), "('both', (('order', ('x',)),))")
        self.assertIs(type(print_lot(A)), str)

    def test_answers_do_not_depend_on_earlier_calls(self):
        texts = [text for _, text in KNOWN]
        told = [parse_lot(text) for text in texts]
        self.check_wrong("(sure")
        self.assertEqual([parse_lot(text) for text in reversed(texts)], told[::-1])
        self.assertEqual([print_lot(e) for e in reversed(told)], texts[::-1])

    def test_printing_beyond_the_limits(self):
        self.assertEqual(print_lot(("sure", "abcdefghijk")), "(sure abcdefghijk)")
        self.assertEqual(print_lot(("draw", -1, ())), "(draw -1)")
        self.assertEqual(print_lot(("both", ())), "(both)")
        self.assertEqual(print_lot(("seats", 1001, tuple((x, 1000000) for x in NAMES + ("m",)))).count("1000000"), 13)

    def test_interface(self):
        for function, names in ((print_lot, ["e"]), (parse_lot, ["text"])):
            self.assertEqual(function.__module__, lot_texts.__name__)
            self.assertEqual(list(inspect.signature(function).parameters), names)


if __name__ == "__main__":
    unittest.main()
