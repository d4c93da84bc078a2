"""Tests of the refusals: the interface of DOC.md, escrowbook/errors.py."""

import unittest

from escrowbook import errors
from tests.interface import REFUSALS


class RefusalTest(unittest.TestCase):
    def test_book_error_stands_right_under_value_error(self):
        self.assertEqual(errors.BookError.__bases__, (ValueError,))

    def test_each_refusal_stands_right_under_book_error(self):
        self.assertEqual(len(set(REFUSALS)), 15)
        for name in REFUSALS:
            with self.subTest(name):
                self.assertEqual(getattr(errors, name).__bases__, (errors.BookError,))

    def test_each_class_is_its_own_and_bears_its_name(self):
        for name in ("BookError",) + REFUSALS:
            with self.subTest(name):
                self.assertEqual(getattr(errors, name).__name__, name)
                self.assertEqual(getattr(errors, name).__module__, "escrowbook.errors")

    def test_no_other_class_stands_there(self):
        found = [name for name, worth in vars(errors).items() if isinstance(worth, type)]
        self.assertEqual(sorted(found), sorted(("BookError",) + REFUSALS))

    def test_each_refusal_is_caught_as_itself_and_as_what_it_stands_under(self):
        for name in REFUSALS:
            refusal = getattr(errors, name)
            for kind in (refusal, errors.BookError, ValueError):
                with self.subTest(name, kind=kind), self.assertRaises(kind):
                    raise refusal("refused")

    def test_no_refusal_is_caught_as_another(self):
        for name in REFUSALS:
            for other in REFUSALS:
                if other != name:
                    with self.subTest(name, other=other):
                        self.assertFalse(
                            issubclass(getattr(errors, name), getattr(errors, other)))


if __name__ == "__main__":
    unittest.main()
