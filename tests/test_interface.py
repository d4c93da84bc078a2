"""Tests of the interface of DOC.md: names, arguments, and where they are defined."""

import ast
import importlib
import inspect
import pathlib
import unittest

from escrowbook.book import Book
from tests.interface import FUNCTIONS, INTERFACE, METHODS

PACKAGE = pathlib.Path(__file__).resolve().parent.parent / "escrowbook"


class InterfaceTest(unittest.TestCase):
    def test_each_is_defined_once_in_the_file_that_lists_it(self):
        for file, names in INTERFACE.items():
            rows = ast.parse((PACKAGE / file).read_bytes()).body
            defined = [row.name for row in rows if isinstance(row, (ast.FunctionDef, ast.ClassDef))]
            for name in names:
                with self.subTest(file, name=name):
                    self.assertEqual(defined.count(name), 1)

    def test_the_arguments_of_the_functions(self):
        for module, functions in FUNCTIONS.items():
            for name, arguments in functions.items():
                function = getattr(importlib.import_module("escrowbook." + module), name)
                with self.subTest(name):
                    self.assertEqual(list(inspect.signature(function).parameters), arguments)

    def test_the_methods_of_a_book_stand_in_the_class_itself(self):
        for name, arguments in METHODS.items():
            with self.subTest(name):
                self.assertTrue(inspect.isfunction(vars(Book).get(name)))
                self.assertEqual(
                    list(inspect.signature(getattr(Book(), name)).parameters), arguments)

    def test_a_book_is_made_of_nothing_and_has_a_day_of_its_own(self):
        self.assertEqual(list(inspect.signature(Book).parameters), [])
        self.assertIn("day", vars(Book()))
        self.assertIs(type(Book().day), int)


class KindsTest(unittest.TestCase):
    """What is answered is of the very kind that the interface tells."""

    def setUp(self):
        self.book = Book()

    def test_what_answers_none(self):
        book = self.book
        self.assertIsNone(book.open_purse(name="anna"))
        self.assertIsNone(book.put(purse="anna", amount=9))
        self.assertIsNone(book.take(purse="anna", amount=2))
        self.assertIsNone(book.tell(
            name="rent", parts=[("anna", 5)], gains=[("anna", 5)], needs=[], last=3))
        self.assertIsNone(book.set_aside(purse="anna", pact="rent"))
        self.assertIsNone(book.draw_back(purse="anna", pact="rent"))

    def test_what_answers_a_value(self):
        self.test_what_answers_none()
        book = self.book
        for answer, worth in (
                (book.purses(), ["anna"]), (book.told(), ["rent"]), (book.inside_of(pact="rent"), []),
                (book.free_of(purse="anna"), 7), (book.aside_of(purse="anna"), 0),
                (book.state_of(pact="rent"), "open"), (book.why_not(pact="rent"), ["rent"]),
                (book.settle(), []), (book.pass_days(count=3), []), (book.day, 3),
                (book.call_off(pact="rent"), ["rent"]), (book.state_of("rent"), "fallen")):
            with self.subTest(worth):
                self.assertIs(type(answer), type(worth))
                self.assertEqual(answer, worth)

    def test_full_is_true_or_false_itself(self):
        self.test_what_answers_none()
        self.assertIs(self.book.full(pact="rent"), False)
        self.book.set_aside("anna", "rent")
        self.assertIs(self.book.full(pact="rent"), True)
        self.book.settle()
        self.assertIs(self.book.full(pact="rent"), False)


if __name__ == "__main__":
    unittest.main()
