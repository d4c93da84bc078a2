"""Tests of points 11 and 12 of DOC.md: call_off, pass_days, and the day."""

import unittest

from escrowbook import errors
from escrowbook.book import Book
from tests.books import LATE, MOST, BookTest, book_of, states, tell_filled, tell_simple
from tests.needs import names_of
from tests.refusing import NO_NAMES, NO_WHOLE_NUMBERS, Number


def book_with(pacts):
    """A book with these pacts, a dict of names and needs, none of them filled."""
    book = book_of(anna=1000, ben=0)
    for name, needs in pacts.items():
        tell_simple(book, name, needs)
    return book


class CallOffTest(BookTest):
    def test_a_pact_that_no_other_needs_falls_alone(self):
        book = book_with({"a": [], "b": [], "c": ["b"]})
        self.assertEqual(book.call_off("a"), ["a"])
        self.assertEqual(states(book), {"a": "fallen", "b": "open", "c": "open"})
        self.assertEqual(book.call_off("c"), ["c"])
        self.assertEqual(book.call_off("b"), ["b"])

    def test_its_needs_do_not_fall_with_it(self):
        book = book_with({"a": [], "b": ["a", "c"], "c": []})
        self.assertEqual(book.call_off("b"), ["b"])
        self.assertEqual(states(book), {"a": "open", "b": "fallen", "c": "open"})

    def test_needs_that_go_backward(self):
        book = book_with({"a": [], "b": ["a"], "c": ["b"], "d": ["c"]})
        self.assertEqual(book.call_off("a"), ["a", "b", "c", "d"])

    def test_needs_that_go_forward(self):
        book = book_with({"a": ["b"], "b": ["c"], "c": ["d"], "d": []})
        self.assertEqual(book.call_off("d"), ["d", "c", "b", "a"])

    def test_from_the_middle(self):
        book = book_with({"a": ["b"], "b": ["c"], "c": [], "d": ["c"], "e": ["d", "f"], "f": []})
        self.assertEqual(book.call_off("b"), ["b", "a"])
        self.assertEqual(states(book)["c"], "open")
        self.assertEqual(book.call_off("c"), ["c", "d", "e"])
        self.assertEqual(states(book)["f"], "open")

    def test_a_ring(self):
        for many in (2, 3, 7):
            names = names_of(many)
            ahead = {name: [names[(at + 1) % many]] for at, name in enumerate(names)}
            behind = {name: [names[at - 1]] for at, name in enumerate(names)}
            for first in range(many):
                turned = names[first:] + names[:first]
                self.assertEqual(book_with(behind).call_off(names[first]), turned)
                back = [names[(first - step) % many] for step in range(many)]
                self.assertEqual(book_with(ahead).call_off(names[first]), back)

    def test_the_first_told_falls_next_again_and_again(self):
        # Of those that wait at each step the first told falls, though others waited longer.
        book = book_with({
            "a": ["d"], "b": ["a"], "c": ["x"], "d": ["x"], "e": ["x"], "x": [], "f": ["e", "b"]})
        self.assertEqual(book.call_off("x"), ["x", "c", "d", "a", "b", "e", "f"])

    def test_it_is_neither_step_by_step_nor_one_need_to_its_end(self):
        book = book_with({"a": ["c"], "b": ["x"], "c": ["e"], "d": ["x"], "e": ["b"], "x": []})
        self.assertEqual(book.call_off("x"), ["x", "b", "d", "e", "c", "a"])

    def test_a_pact_falls_once_though_several_of_its_needs_fall(self):
        book = book_with({"x": [], "a": ["x"], "b": ["x", "a"], "c": ["a", "b", "x"]})
        self.assertEqual(book.call_off("x"), ["x", "a", "b", "c"])

    def test_any_one_of_eight_needs_lets_it_fall(self):
        names = names_of(8)
        for name in names:
            pacts = {need: [] for need in names}
            pacts["last"] = names
            book = book_with(pacts)
            self.assertEqual(book.call_off(name), [name, "last"])

    def test_needs_told_only_later(self):
        book = book_with({"a": ["later", "never"], "b": ["a"]})
        self.assertEqual(states(book), {"a": "open", "b": "open"})
        tell_simple(book, "later", ["b"])
        self.assertEqual(book.call_off("later"), ["later", "a", "b"])

    def test_needs_never_told(self):
        book = book_with({"a": ["never"], "b": ["never", "c"], "c": []})
        self.assertEqual(book.call_off("a"), ["a"])
        self.assertEqual(book.call_off("c"), ["c", "b"])

    def test_done_pacts_do_not_fall(self):
        book = book_of(anna=10, ben=0)
        tell_filled(book, "a")
        tell_filled(book, "b", ["a"])
        tell_simple(book, "c", ["b"])
        tell_simple(book, "d", ["c"])
        self.assertEqual(book.settle(), ["a", "b"])
        self.assertEqual(book.call_off("c"), ["c", "d"])
        self.assertEqual(states(book), {"a": "done", "b": "done", "c": "fallen", "d": "fallen"})

    def test_what_fell_before_is_not_told_again(self):
        book = book_with({"a": [], "b": ["a"], "x": [], "c": ["x"]})
        self.assertEqual(book.call_off("a"), ["a", "b"])
        self.assertEqual(book.call_off("x"), ["x", "c"])

    def test_what_was_set_aside_goes_back(self):
        book = book_of(anna=10, ben=10, carl=10)
        book.tell("a", [("anna", 3), ("ben", 4)], [("carl", 7)], [], LATE)
        book.tell("b", [("anna", 2), ("carl", 5)], [("ben", 7)], ["a"], LATE)
        book.tell("c", [("anna", 1)], [("ben", 1)], [], LATE)
        for purse, pact in (("ben", "a"), ("anna", "b"), ("carl", "b"), ("anna", "c")):
            book.set_aside(purse, pact)
        self.assert_purse(book, "anna", 7, 3)
        self.assertEqual(book.call_off("a"), ["a", "b"])
        self.assert_purse(book, "anna", 9, 1)
        self.assert_purse(book, "ben", 10, 0)
        self.assert_purse(book, "carl", 10, 0)
        self.assertEqual([book.inside_of(name) for name in "abc"], [[], [], ["anna"]])

    def test_a_full_pact_falls_too_and_pays_no_gain(self):
        book = book_of(anna=1, ben=0)
        tell_filled(book, "a")
        self.assertEqual(book.call_off("a"), ["a"])
        self.assert_purse(book, "anna", 1, 0)
        self.assert_purse(book, "ben", 0, 0)
        self.assertEqual(book.settle(), [])

    def test_refused_of_what_is_no_pact(self):
        book = book_with({"a": []})
        for place, thing in enumerate(NO_NAMES + ("anna", "never", "aa")):
            with self.subTest(place):
                self.assert_refuses(errors.NoPact, book.call_off, thing)

    def test_refused_of_what_is_not_open(self):
        book = book_of(anna=5, ben=0)
        tell_filled(book, "a")
        book.settle()
        tell_simple(book, "b")
        book.call_off("b")
        self.assert_refuses(errors.NotOpen, book.call_off, "a")
        self.assert_refuses(errors.NotOpen, book.call_off, "b")

    def test_many_pacts_fall_in_order(self):
        names = names_of(400)
        pacts = {name: names[at + 1:at + 2] for at, name in enumerate(names)}
        self.assertEqual(book_with(pacts).call_off(names[-1]), names[::-1])
        pacts = {name: names[max(at - 2, 0):at] for at, name in enumerate(names)}
        self.assertEqual(book_with(pacts).call_off(names[0]), names)


class PassDaysTest(BookTest):
    def test_the_day_is_the_sum_of_all_counts(self):
        book = Book()
        day = 0
        for count in (1, 1, 2, 365, 7, 10 ** 30, 1, 10 ** 5000, 3):
            self.assertEqual(book.pass_days(count), [])
            day += count
            self.assertEqual(book.day, day)

    def test_the_last_day_itself_and_one_less(self):
        book = book_of(anna=9, ben=0)
        for name, last in (("a", 4), ("b", 5), ("c", 6)):
            tell_simple(book, name, last=last)
        self.assertEqual(book.pass_days(4), [])
        self.assertEqual(book.pass_days(1), ["a"])
        self.assertEqual(states(book), {"a": "fallen", "b": "open", "c": "open"})
        self.assertEqual(book.pass_days(1), ["b"])
        self.assertEqual(book.pass_days(1), ["c"])
        self.assertEqual(book.day, 7)

    def test_a_pact_whose_last_day_is_day_0(self):
        book = book_of(anna=9, ben=0)
        tell_simple(book, "a", last=0)
        self.assertEqual(book.pass_days(1), ["a"])

    def test_very_great_days_and_counts(self):
        book = book_of(anna=9, ben=0)
        tell_simple(book, "a", last=10 ** 5000)
        tell_simple(book, "b", last=10 ** 5000 - 1)
        self.assertEqual(book.pass_days(10 ** 5000 - 1), [])
        self.assertEqual(book.pass_days(1), ["b"])
        self.assertEqual(book.pass_days(10 ** 5000), ["a"])
        self.assertEqual(book.day, 2 * 10 ** 5000)

    def test_late_pacts_fall_in_the_order_of_telling(self):
        book = book_of(anna=9, ben=0)
        for name, last in (("d", 3), ("a", 1), ("c", 9), ("b", 2), ("e", 1)):
            tell_simple(book, name, last=last)
        self.assertEqual(book.pass_days(5), ["d", "a", "b", "e"])
        self.assertEqual(states(book)["c"], "open")

    def test_all_late_pacts_fall_ahead_of_the_others(self):
        book = book_of(anna=9, ben=0)
        for name, needs, last in (
                ("a", ["c"], LATE), ("b", ["g"], LATE), ("c", [], 1), ("d", ["c"], LATE),
                ("e", [], 1), ("f", ["a"], LATE), ("g", [], 1), ("h", [], LATE)):
            tell_simple(book, name, needs, last)
        self.assertEqual(book.pass_days(2), ["c", "e", "g", "a", "b", "d", "f"])
        self.assertEqual(states(book)["h"], "open")

    def test_late_pacts_that_need_each_other(self):
        for needs in ({"a": ["b"], "b": ["c"], "c": ["a"]}, {"a": ["c"], "b": ["a"], "c": ["b"]}):
            book = book_of(anna=9, ben=0)
            for name, last in (("a", 1), ("b", LATE), ("c", 1)):
                tell_simple(book, name, needs[name], last)
            self.assertEqual(book.pass_days(2), ["a", "c", "b"])

    def test_the_others_fall_as_with_call_off(self):
        book = book_of(anna=9, ben=0)
        for name, needs, last in (
                ("a", ["c"], LATE), ("b", ["x"], LATE), ("c", ["e"], LATE), ("d", ["x"], LATE),
                ("e", ["b"], LATE), ("x", [], 0)):
            tell_simple(book, name, needs, last)
        self.assertEqual(book.pass_days(1), ["x", "b", "d", "e", "c", "a"])

    def test_what_was_set_aside_goes_back(self):
        book = book_of(anna=9, ben=0)
        tell_filled(book, "a", last=1)
        tell_filled(book, "b", ["a"])
        tell_filled(book, "c")
        self.assertEqual(book.pass_days(2), ["a", "b"])
        self.assert_purse(book, "anna", 8, 1)

    def test_pacts_that_are_not_open_do_not_fall(self):
        book = book_of(anna=9, ben=0)
        tell_filled(book, "a", last=1)
        book.settle()
        tell_simple(book, "b", last=1)
        book.call_off("b")
        self.assertEqual(book.pass_days(5), [])
        self.assertEqual(states(book), {"a": "done", "b": "fallen"})
        self.assert_purse(book, "ben", 1, 0)

    def test_each_pact_falls_once(self):
        book = book_of(anna=9, ben=0)
        tell_simple(book, "a", last=1)
        self.assertEqual(book.pass_days(2), ["a"])
        self.assertEqual(book.pass_days(2), [])

    def test_what_is_no_count_of_days_is_refused(self):
        book = book_of(anna=9, ben=0)
        tell_simple(book, "a", last=1)
        book.pass_days(1)
        for place, thing in enumerate(NO_WHOLE_NUMBERS + (0, -1, -MOST, -(10 ** 5000), Number(5))):
            with self.subTest(place):
                self.assert_refuses(errors.NoDay, book.pass_days, thing)
        self.assertEqual((book.day, states(book)), (1, {"a": "open"}))

    def test_a_telling_goes_by_the_day_that_it_is_then(self):
        book = book_of(anna=9, ben=0)
        book.pass_days(10)
        self.assert_refuses(errors.NoDay, book.tell, "a", [("anna", 1)], [("ben", 1)], [], 9)
        book.tell("a", [("anna", 1)], [("ben", 1)], [], 10)
        self.assertEqual(book.pass_days(1), ["a"])


if __name__ == "__main__":
    unittest.main()
