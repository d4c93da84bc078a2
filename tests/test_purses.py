"""Tests of points 3, 4 and 5 of DOC.md: purses."""

import itertools
import unittest

from escrowbook import errors
from escrowbook.book import Book
from tests.books import LATE, MOST, BookTest, book_of, tell_filled, tell_simple
from tests.refusing import NO_AMOUNTS, NO_NAMES


class NewBookTest(BookTest):
    def test_a_new_book_has_nothing_and_its_day_is_0(self):
        book = Book()
        self.assertEqual(book.purses(), [])
        self.assertEqual(book.told(), [])
        self.assertEqual(book.day, 0)
        self.assertEqual(book.settle(), [])

    def test_the_second_book_is_new_too(self):
        first = book_of(anna=5, ben=0)
        tell_filled(first, "rent")
        first.pass_days(3)
        second = Book()
        self.assertEqual((second.purses(), second.told(), second.day), ([], [], 0))
        self.assert_refuses(errors.NoPurse, second.free_of, "anna")
        self.assert_refuses(errors.NoPact, second.state_of, "rent")


class OpenPurseTest(BookTest):
    def test_a_purse_begins_with_nothing(self):
        book = book_of(anna=0)
        self.assertEqual(book.purses(), ["anna"])
        self.assert_purse(book, "anna", 0, 0)

    def test_names_of_one_and_of_twelve_letters(self):
        book = Book()
        for name in ("a", "z", "abcdefghijkl", "zzzzzzzzzzzz"):
            book.open_purse(name)
            self.assert_purse(book, name, 0, 0)
        self.assertEqual(book.purses(), ["a", "z", "abcdefghijkl", "zzzzzzzzzzzz"])

    def test_what_is_no_name_is_refused(self):
        book = book_of(anna=7)
        for place, thing in enumerate(NO_NAMES):
            with self.subTest(place):
                self.assert_refuses(errors.NoName, book.open_purse, thing)

    def test_a_name_that_a_purse_has_is_refused(self):
        book = book_of(anna=7, ben=0)
        for name in ("anna", "ben", "".join(["an", "na"])):
            self.assert_refuses(errors.Taken, book.open_purse, name)

    def test_a_refused_name_is_free_for_a_later_purse(self):
        book = Book()
        self.assert_refuses(errors.NoName, book.open_purse, "Anna")
        book.open_purse("anna")
        self.assertEqual(book.purses(), ["anna"])

    def test_a_purse_and_a_pact_may_have_one_name(self):
        book = book_of(anna=9, ben=0)
        book.tell("anna", [("anna", 4)], [("ben", 4)], [], LATE)
        book.tell("later", [("anna", 2)], [("ben", 2)], ["anna"], LATE)
        book.open_purse("later")
        book.put("later", 3)
        book.set_aside("anna", "anna")
        self.assert_purse(book, "anna", 5, 4)
        self.assertEqual(book.inside_of("anna"), ["anna"])
        self.assertEqual(book.call_off("anna"), ["anna", "later"])
        self.assert_purse(book, "anna", 9, 0)
        self.assert_purse(book, "later", 3, 0)
        self.assertEqual(book.purses(), ["anna", "ben", "later"])
        self.assertEqual(book.told(), ["anna", "later"])

    def test_purses_are_told_in_the_order_of_opening(self):
        names = ["".join(letters) for letters in itertools.product("zmabq", repeat=4)]
        book = Book()
        for many, name in enumerate(names, start=1):
            book.open_purse(name)
            if many % 100 == 0:
                self.assertEqual(book.purses(), names[:many])
        self.assertEqual(len(names), 625)
        self.assertEqual(book.purses(), names)

    def test_hundreds_of_purses_have_each_its_own(self):
        names = ["".join(letters) for letters in itertools.product("dcbaxy", repeat=3)]
        book = Book()
        for name in names:
            book.open_purse(name)
        for amount, name in enumerate(names, start=1):
            book.put(name, amount)
        self.assertEqual([book.free_of(name) for name in names], list(range(1, len(names) + 1)))


class PutTest(BookTest):
    def setUp(self):
        self.book = book_of(anna=0, ben=4)

    def test_what_is_put_is_free(self):
        self.book.put("anna", 5)
        self.assert_purse(self.book, "anna", 5, 0)
        self.book.put("anna", 7)
        self.assert_purse(self.book, "anna", 12, 0)
        self.assert_purse(self.book, "ben", 4, 0)

    def test_the_edges(self):
        self.book.put("anna", 1)
        self.assert_purse(self.book, "anna", 1, 0)
        self.book.put("anna", MOST)
        self.assert_purse(self.book, "anna", MOST + 1, 0)

    def test_sums_may_be_greater_than_an_amount(self):
        for _ in range(50):
            self.book.put("anna", MOST)
        self.assert_purse(self.book, "anna", 50 * MOST, 0)

    def test_refused_without_such_a_purse(self):
        for place, thing in enumerate(NO_NAMES + ("carl", "an", "annas")):
            with self.subTest(place):
                self.assert_refuses(errors.NoPurse, self.book.put, thing, 5)

    def test_refused_without_an_amount(self):
        for place, thing in enumerate(NO_AMOUNTS):
            with self.subTest(place):
                self.assert_refuses(errors.NoAmount, self.book.put, "anna", thing)

    def test_no_purse_goes_ahead_of_no_amount(self):
        for name in ("carl", "Anna", None, ["anna"]):
            for amount in (0, True, MOST + 1, None, ["x"]):
                self.assert_refuses(errors.NoPurse, self.book.put, name, amount)

    def test_a_pact_of_that_name_is_no_purse(self):
        tell_simple(self.book, "carl")
        self.assert_refuses(errors.NoPurse, self.book.put, "carl", 5)


class TakeTest(BookTest):
    def setUp(self):
        self.book = book_of(anna=9, ben=2, carl=0)

    def test_what_is_taken_is_no_more_free(self):
        self.book.take("anna", 4)
        self.assert_purse(self.book, "anna", 5, 0)
        self.book.take("anna", 1)
        self.assert_purse(self.book, "anna", 4, 0)
        self.assert_purse(self.book, "ben", 2, 0)

    def test_just_what_is_free_and_one_more(self):
        self.assert_refuses(errors.TooLittle, self.book.take, "anna", 10)
        self.book.take("anna", 9)
        self.assert_purse(self.book, "anna", 0, 0)
        self.assert_refuses(errors.TooLittle, self.book.take, "anna", 1)

    def test_the_edges(self):
        self.assert_refuses(errors.TooLittle, self.book.take, "anna", MOST)
        self.book.put("carl", MOST)
        self.book.put("carl", 1)
        self.book.take("carl", MOST)
        self.assert_purse(self.book, "carl", 1, 0)
        self.book.take("carl", 1)
        self.assert_purse(self.book, "carl", 0, 0)

    def test_what_is_set_aside_can_not_be_taken(self):
        self.book.tell("rent", [("anna", 6)], [("ben", 6)], [], LATE)
        self.book.set_aside("anna", "rent")
        self.assert_refuses(errors.TooLittle, self.book.take, "anna", 4)
        self.book.take("anna", 3)
        self.assert_purse(self.book, "anna", 0, 6)
        self.book.draw_back("anna", "rent")
        self.book.take("anna", 6)
        self.assert_purse(self.book, "anna", 0, 0)

    def test_refused_without_such_a_purse(self):
        for place, thing in enumerate(NO_NAMES + ("dora", "an", "annas")):
            with self.subTest(place):
                self.assert_refuses(errors.NoPurse, self.book.take, thing, 1)

    def test_refused_without_an_amount(self):
        for place, thing in enumerate(NO_AMOUNTS):
            with self.subTest(place):
                self.assert_refuses(errors.NoAmount, self.book.take, "anna", thing)

    def test_no_purse_goes_ahead_of_no_amount(self):
        for name in ("dora", "Anna", None, ["anna"]):
            for amount in (0, True, MOST + 1, None, ["x"], 10):
                self.assert_refuses(errors.NoPurse, self.book.take, name, amount)

    def test_no_amount_goes_ahead_of_too_little(self):
        # Of nothing free each of these would be too much, were it an amount.
        for amount in (0, MOST + 1, 10 ** 40, True):
            self.assert_refuses(errors.NoAmount, self.book.take, "carl", amount)

    def test_more_than_an_amount_is_refused_though_it_is_free(self):
        self.book.put("anna", MOST)
        self.assert_refuses(errors.NoAmount, self.book.take, "anna", MOST + 1)


class AskedTest(BookTest):
    def setUp(self):
        self.book = book_of(anna=9, ben=2)

    def test_free_and_aside_of_what_is_no_purse(self):
        tell_simple(self.book, "carl")
        for place, thing in enumerate(NO_NAMES + ("carl", "an", "annas")):
            with self.subTest(place):
                self.assert_refuses(errors.NoPurse, self.book.free_of, thing)
                self.assert_refuses(errors.NoPurse, self.book.aside_of, thing)

    def test_aside_is_the_sum_of_the_parts_set_aside_for_open_pacts(self):
        book = self.book
        for name, amount in (("one", 1), ("two", 2), ("four", 4)):
            book.tell(name, [("anna", amount)], [("ben", amount)], [], LATE)
        self.assert_purse(book, "anna", 9, 0)
        book.set_aside("anna", "four")
        self.assert_purse(book, "anna", 5, 4)
        book.set_aside("anna", "one")
        self.assert_purse(book, "anna", 4, 5)
        book.draw_back("anna", "four")
        book.set_aside("anna", "two")
        self.assert_purse(book, "anna", 6, 3)
        book.call_off("one")
        self.assert_purse(book, "anna", 7, 2)
        self.assertEqual(book.settle(), ["two"])
        self.assert_purse(book, "anna", 7, 0)
        self.assert_purse(book, "ben", 4, 0)


if __name__ == "__main__":
    unittest.main()
