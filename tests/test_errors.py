"""The error classes of the interface."""

import unittest

from sortes.errors import LimitError, ParseError, SortesError


class ErrorsTest(unittest.TestCase):
    def test_base_classes(self):
        self.assertEqual(SortesError.__bases__, (ValueError,))
        self.assertEqual(LimitError.__bases__, (SortesError,))
        self.assertEqual(ParseError.__bases__, (SortesError,))

    def test_defined_where_the_interface_lists_them(self):
        for kind in (SortesError, LimitError, ParseError):
            self.assertEqual(kind.__module__, "sortes.errors")

    def test_field_at(self):
        for at in (0, 1, 4000):
            self.assertEqual(ParseError(at).at, at)
            self.assertEqual(ParseError(at=at).at, at)

    def test_field_at_belongs_to_the_object(self):
        first, second = ParseError(0), ParseError(7)
        self.assertEqual((first.at, second.at), (0, 7))
        self.assertFalse(hasattr(ParseError, "at"))

    def test_caught_by_the_base_classes(self):
        for error in (SortesError("told"), LimitError("told"), ParseError(3)):
            for base in (SortesError, ValueError):
                with self.assertRaises(base) as caught:
                    raise error
                self.assertIs(caught.exception, error)
        with self.assertRaises(SortesError) as caught:
            raise ParseError(5)
        self.assertEqual(caught.exception.at, 5)

    def test_the_two_kinds_differ(self):
        self.assertNotIsInstance(LimitError("told"), ParseError)
        self.assertNotIsInstance(ParseError(0), LimitError)
        self.assertEqual(str(LimitError("told")), "told")


if __name__ == "__main__":
    unittest.main()
