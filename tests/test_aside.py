"""Tests of points 8, 9 and 10 of DOC.md: setting aside, drawing back, being full."""

import itertools
import unittest

from escrowbook import errors
from tests.books import LATE, MOST, BookTest, book_of, tell_filled, tell_simple
from tests.refusing import NO_NAMES


class AsideTest(BookTest):
    def setUp(self):
        """A pact of each state, and a purse that has no part of any of them."""
        self.book = book_of(anna=10, ben=3, carl=0)
        tell_filled(self.book, "finished")
        self.book.settle()
        tell_simple(self.book, "over")
        self.book.call_off("over")
        self.book.tell("rent", [("anna", 4), ("ben", 4)], [("carl", 8)], [], LATE)
        # Now anna has 9 free and ben has 4.


class SetAsideTest(AsideTest):
    def test_the_part_moves_from_free_to_aside(self):
        self.book.set_aside("anna", "rent")
        self.assert_purse(self.book, "anna", 5, 4)
        self.assert_purse(self.book, "ben", 4, 0)
        self.assert_purse(self.book, "carl", 0, 0)
        self.assertEqual(self.book.inside_of("rent"), ["anna"])

    def test_just_what_is_free_and_one_less(self):
        self.book.take("ben", 1)
        self.assert_refuses(errors.TooLittle, self.book.set_aside, "ben", "rent")
        self.book.put("ben", 1)
        self.book.set_aside("ben", "rent")
        self.assert_purse(self.book, "ben", 0, 4)

    def test_the_greatest_amount(self):
        self.book.tell("great", [("carl", MOST)], [("anna", MOST)], [], LATE)
        self.assert_refuses(errors.TooLittle, self.book.set_aside, "carl", "great")
        self.book.put("carl", MOST)
        self.book.set_aside("carl", "great")
        self.assert_purse(self.book, "carl", 0, MOST)

    def test_refused_without_such_a_purse(self):
        for place, thing in enumerate(NO_NAMES + ("dora", "rent")):
            with self.subTest(place):
                self.assert_refuses(errors.NoPurse, self.book.set_aside, thing, "rent")

    def test_refused_without_such_a_pact(self):
        for place, thing in enumerate(NO_NAMES + ("lease", "anna")):
            with self.subTest(place):
                self.assert_refuses(errors.NoPact, self.book.set_aside, "anna", thing)

    def test_refused_of_a_pact_that_is_done_or_fallen(self):
        self.assert_refuses(errors.NotOpen, self.book.set_aside, "anna", "finished")
        self.assert_refuses(errors.NotOpen, self.book.set_aside, "anna", "over")

    def test_refused_without_a_part(self):
        # Getting some of it is no part.
        self.assert_refuses(errors.NoPart, self.book.set_aside, "carl", "rent")

    def test_refused_where_it_is_set_aside(self):
        self.book.set_aside("anna", "rent")
        self.assert_refuses(errors.Already, self.book.set_aside, "anna", "rent")

    def test_refused_where_less_is_free(self):
        self.book.take("ben", 4)
        self.assert_refuses(errors.TooLittle, self.book.set_aside, "ben", "rent")
        # What is set aside for another pact is not free.
        self.book.tell("lease", [("anna", 9)], [("ben", 9)], [], LATE)
        self.book.set_aside("anna", "rent")
        self.assert_refuses(errors.TooLittle, self.book.set_aside, "anna", "lease")

    def test_no_purse_goes_ahead_of_all(self):
        for name in ("dora", None, ["anna"]):
            for pact in ("lease", "Rent", None, ["rent"], "finished", "over", "rent"):
                self.assert_refuses(errors.NoPurse, self.book.set_aside, name, pact)

    def test_no_pact_goes_ahead_of_what_is_asked_of_a_pact(self):
        for pact in ("lease", "Rent", None, ["rent"]):
            self.assert_refuses(errors.NoPact, self.book.set_aside, "carl", pact)

    def test_not_open_goes_ahead_of_no_part(self):
        for pact in ("finished", "over"):
            self.assert_refuses(errors.NotOpen, self.book.set_aside, "carl", pact)

    def test_not_open_goes_ahead_of_too_little(self):
        self.book.take("anna", 9)
        for pact in ("finished", "over"):
            self.assert_refuses(errors.NotOpen, self.book.set_aside, "anna", pact)

    def test_no_part_goes_ahead_of_too_little(self):
        self.assertEqual(self.book.free_of("carl"), 0)
        self.assert_refuses(errors.NoPart, self.book.set_aside, "carl", "rent")

    def test_already_goes_ahead_of_too_little(self):
        self.book.set_aside("ben", "rent")
        self.assertEqual(self.book.free_of("ben"), 0)
        self.assert_refuses(errors.Already, self.book.set_aside, "ben", "rent")


class DrawBackTest(AsideTest):
    def test_the_part_moves_back(self):
        self.book.set_aside("anna", "rent")
        self.book.set_aside("ben", "rent")
        self.book.draw_back("anna", "rent")
        self.assert_purse(self.book, "anna", 9, 0)
        self.assert_purse(self.book, "ben", 0, 4)
        self.assertEqual(self.book.inside_of("rent"), ["ben"])

    def test_what_was_drawn_back_is_free_again(self):
        self.book.set_aside("ben", "rent")
        self.book.draw_back("ben", "rent")
        self.book.take("ben", 4)
        self.assert_purse(self.book, "ben", 0, 0)

    def test_again_and_again(self):
        for _ in range(5):
            self.book.set_aside("ben", "rent")
            self.assert_purse(self.book, "ben", 0, 4)
            self.assert_refuses(errors.Already, self.book.set_aside, "ben", "rent")
            self.book.draw_back("ben", "rent")
            self.assert_purse(self.book, "ben", 4, 0)
            self.assert_refuses(errors.NotAside, self.book.draw_back, "ben", "rent")

    def test_what_is_free_otherwise_stays_free(self):
        self.book.set_aside("anna", "rent")
        self.book.put("anna", 100)
        self.book.take("anna", 5)
        self.book.draw_back("anna", "rent")
        self.assert_purse(self.book, "anna", 104, 0)

    def test_only_that_pact_gives_back(self):
        self.book.tell("lease", [("anna", 2)], [("ben", 2)], [], LATE)
        self.book.set_aside("anna", "rent")
        self.book.set_aside("anna", "lease")
        self.book.draw_back("anna", "lease")
        self.assert_purse(self.book, "anna", 5, 4)
        self.assertEqual(self.book.inside_of("rent"), ["anna"])
        self.assert_refuses(errors.NotAside, self.book.draw_back, "anna", "lease")

    def test_refused_without_such_a_purse(self):
        self.book.set_aside("anna", "rent")
        for place, thing in enumerate(NO_NAMES + ("dora", "rent")):
            with self.subTest(place):
                self.assert_refuses(errors.NoPurse, self.book.draw_back, thing, "rent")

    def test_refused_without_such_a_pact(self):
        self.book.set_aside("anna", "rent")
        for place, thing in enumerate(NO_NAMES + ("lease", "anna")):
            with self.subTest(place):
                self.assert_refuses(errors.NoPact, self.book.draw_back, "anna", thing)

    def test_refused_of_a_pact_that_is_done_or_fallen(self):
        tell_filled(self.book, "lost")
        self.book.call_off("lost")
        for pact in ("finished", "over", "lost"):
            self.assert_refuses(errors.NotOpen, self.book.draw_back, "anna", pact)

    def test_refused_where_nothing_is_set_aside(self):
        self.book.set_aside("ben", "rent")
        self.assert_refuses(errors.NotAside, self.book.draw_back, "anna", "rent")
        # A purse that has no part has nothing set aside either.
        self.assert_refuses(errors.NotAside, self.book.draw_back, "carl", "rent")

    def test_which_goes_first(self):
        for name in ("dora", None, ["anna"]):
            for pact in ("lease", "Rent", None, ["rent"], "finished", "over", "rent"):
                self.assert_refuses(errors.NoPurse, self.book.draw_back, name, pact)
        for pact in ("lease", "Rent", None, ["rent"]):
            self.assert_refuses(errors.NoPact, self.book.draw_back, "carl", pact)
        for pact in ("finished", "over"):
            self.assert_refuses(errors.NotOpen, self.book.draw_back, "carl", pact)


class InsideTest(BookTest):
    PARTS = ["carl", "anna", "dora", "ben"]

    def ready(self):
        book = book_of(anna=5, ben=5, carl=5, dora=5)
        book.tell("rent", [(name, 1) for name in self.PARTS], [("anna", 4)], [], LATE)
        return book

    def test_inside_is_in_the_order_of_the_parts(self):
        for order in itertools.permutations(self.PARTS):
            book = self.ready()
            for many, name in enumerate(order, start=1):
                book.set_aside(name, "rent")
                inside = [part for part in self.PARTS if part in order[:many]]
                self.assertEqual(book.inside_of("rent"), inside)
                self.assertIs(book.full("rent"), many == 4)
            for many, name in enumerate(order, start=1):
                book.draw_back(name, "rent")
                inside = [part for part in self.PARTS if part in order[many:]]
                self.assertEqual(book.inside_of("rent"), inside)
                self.assertIs(book.full("rent"), False)

    def test_drawn_back_and_set_aside_again(self):
        book = self.ready()
        for name in self.PARTS:
            book.set_aside(name, "rent")
        book.draw_back("carl", "rent")
        self.assertIs(book.full("rent"), False)
        book.set_aside("carl", "rent")
        self.assertEqual(book.inside_of("rent"), self.PARTS)
        self.assertIs(book.full("rent"), True)

    def test_nothing_is_inside_of_a_new_pact(self):
        book = self.ready()
        self.assertEqual(book.inside_of("rent"), [])
        self.assertIs(book.full("rent"), False)

    def test_nothing_is_inside_of_a_pact_that_is_not_open(self):
        book = self.ready()
        for name in self.PARTS:
            book.set_aside(name, "rent")
        book.settle()
        self.assertEqual((book.state_of("rent"), book.inside_of("rent")), ("done", []))
        self.assertIs(book.full("rent"), False)
        tell_filled(book, "lease")
        self.assertIs(book.full("lease"), True)
        book.call_off("lease")
        self.assertEqual((book.state_of("lease"), book.inside_of("lease")), ("fallen", []))
        self.assertIs(book.full("lease"), False)

    def test_eight_parts_are_all_to_be_set_aside(self):
        names = ["a", "b", "c", "d", "e", "f", "g", "h"]
        book = book_of(**{name: 1 for name in names})
        book.tell("rent", [(name, 1) for name in names], [("a", 8)], [], LATE)
        for name in reversed(names):
            self.assertIs(book.full("rent"), False)
            book.set_aside(name, "rent")
        self.assertIs(book.full("rent"), True)

    def test_full_asks_nothing_of_needs(self):
        book = book_of(anna=5, ben=0)
        tell_filled(book, "rent", ["never"])
        self.assertIs(book.full("rent"), True)

    def test_refused_of_what_is_no_pact(self):
        book = self.ready()
        for place, thing in enumerate(NO_NAMES + ("lease", "anna")):
            for asked in (book.state_of, book.inside_of, book.full, book.why_not):
                with self.subTest(place, asked=asked.__name__):
                    self.assert_refuses(errors.NoPact, asked, thing)


if __name__ == "__main__":
    unittest.main()
