"""The refusals: how they stand to one another and to ValueError."""

import unittest

from contractbook import errors
from contractbook.errors import BadContract, BadMarket, BadText, BookError, TooMany

KINDS = (BadContract, BadMarket, TooMany, BadText)


class TestErrors(unittest.TestCase):
    def test_book_error_stands_under_value_error(self):
        self.assertTrue(issubclass(BookError, ValueError))
        self.assertIsNot(BookError, ValueError)

    def test_each_kind_stands_under_book_error(self):
        for kind in KINDS:
            with self.subTest(kind=kind.__name__):
                self.assertTrue(issubclass(kind, BookError))
                self.assertTrue(issubclass(kind, ValueError))
                self.assertIsNot(kind, BookError)

    def test_no_kind_stands_under_another(self):
        for kind in KINDS:
            for other in KINDS:
                with self.subTest(kind=kind.__name__, other=other.__name__):
                    self.assertEqual(issubclass(kind, other), kind.__name__ == other.__name__)

    def test_book_error_stands_under_no_kind(self):
        for kind in KINDS:
            with self.subTest(kind=kind.__name__):
                self.assertFalse(issubclass(BookError, kind))

    def test_each_is_raised_and_caught_by_its_name(self):
        for kind in (BookError,) + KINDS:
            with self.subTest(kind=kind.__name__):
                with self.assertRaises(kind):
                    raise kind("why")

    def test_each_is_caught_as_a_book_error_and_a_value_error(self):
        for kind in (BookError,) + KINDS:
            for above in (BookError, ValueError):
                with self.subTest(kind=kind.__name__, above=above.__name__):
                    with self.assertRaises(above):
                        raise kind("why")

    def test_each_keeps_its_message(self):
        for kind in (BookError,) + KINDS:
            with self.subTest(kind=kind.__name__):
                self.assertEqual(str(kind("why")), "why")

    def test_each_is_defined_under_its_name_in_its_file(self):
        for name in ("BookError", "BadContract", "BadMarket", "TooMany", "BadText"):
            with self.subTest(name=name):
                kind = getattr(errors, name)
                self.assertEqual(kind.__name__, name)
                self.assertEqual(kind.__module__, "contractbook.errors")


if __name__ == "__main__":
    unittest.main()
