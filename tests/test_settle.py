"""Tests of points 13 and 14 of DOC.md: settle and why_not of a book."""

import unittest

from escrowbook import errors
from escrowbook.settling import chain, greatest
from tests.books import LATE, BookTest, book_of, seen, states, tell_filled, tell_simple
from tests.needs import names_of
from tests.refusing import NO_NAMES


class SettleTest(BookTest):
    def test_nothing_can_be_done(self):
        book = book_of(anna=5, ben=0)
        before = seen(book)
        self.assertEqual(book.settle(), [])
        self.assertEqual(seen(book), before)
        tell_simple(book, "a")
        tell_filled(book, "b", ["a"])
        tell_filled(book, "c", ["never"])
        before = seen(book)
        self.assertEqual(book.settle(), [])
        self.assertEqual(seen(book), before)

    def test_a_full_pact_is_done_and_pays_its_gains(self):
        book = book_of(anna=9, ben=4, carl=0, dora=1)
        book.tell("rent", [("anna", 5), ("ben", 3)], [("carl", 6), ("dora", 1), ("ben", 1)], [], LATE)
        book.set_aside("anna", "rent")
        self.assertEqual(book.settle(), [])
        book.set_aside("ben", "rent")
        self.assertEqual(book.settle(), ["rent"])
        self.assertEqual(book.state_of("rent"), "done")
        self.assertEqual(book.inside_of("rent"), [])
        self.assertIs(book.full("rent"), False)
        for name, free in (("anna", 4), ("ben", 2), ("carl", 6), ("dora", 2)):
            self.assert_purse(book, name, free, 0)

    def test_what_is_set_aside_for_others_stays_aside(self):
        book = book_of(anna=9, ben=0)
        book.tell("a", [("anna", 2)], [("ben", 2)], [], LATE)
        book.tell("b", [("anna", 3), ("ben", 3)], [("ben", 6)], [], LATE)
        book.set_aside("anna", "a")
        book.set_aside("anna", "b")
        self.assertEqual(book.settle(), ["a"])
        self.assert_purse(book, "anna", 4, 3)
        self.assert_purse(book, "ben", 2, 0)
        self.assertEqual(book.inside_of("b"), ["anna"])

    def test_the_greatest_set_and_no_other(self):
        book = book_of(anna=50, ben=0)
        tell_filled(book, "a", ["c"])
        tell_filled(book, "b", ["x"])
        tell_filled(book, "c", ["a", "d"])
        tell_filled(book, "d", [])
        tell_simple(book, "e", ["d"])
        tell_filled(book, "f", ["e"])
        tell_filled(book, "g", ["b", "a"])
        self.assertEqual(book.settle(), ["a", "c", "d"])
        self.assertEqual(states(book), {
            "a": "done", "b": "open", "c": "done", "d": "done", "e": "open", "f": "open", "g": "open"})
        self.assert_purse(book, "anna", 44, 3)
        self.assert_purse(book, "ben", 3, 0)
        book.set_aside("anna", "e")
        self.assertEqual(book.settle(), ["e", "f"])
        tell_filled(book, "x")
        self.assertEqual(book.settle(), ["b", "g", "x"])
        self.assert_purse(book, "anna", 42, 0)

    def test_the_order_is_that_of_telling(self):
        book = book_of(anna=50, ben=0)
        for name, needs in (("z", ["m"]), ("c", []), ("m", ["a"]), ("a", ["z"]), ("b", ["c"])):
            tell_simple(book, name, needs)
        for name in ("a", "b", "c", "m", "z"):
            book.set_aside("anna", name)
        self.assertEqual(book.settle(), ["z", "c", "m", "a", "b"])

    def test_rings(self):
        names = names_of(5)
        book = book_of(anna=50, ben=0)
        for at, name in enumerate(names):
            tell_simple(book, name, [names[at - 1]])
        for name in names[:-1]:
            book.set_aside("anna", name)
            self.assertEqual(book.settle(), [])
        book.set_aside("anna", names[-1])
        self.assertEqual(book.settle(), names)
        self.assert_purse(book, "anna", 45, 0)
        self.assert_purse(book, "ben", 5, 0)

    def test_a_ring_that_leads_out(self):
        book = book_of(anna=50, ben=0)
        tell_simple(book, "out")
        tell_filled(book, "a", ["b"])
        tell_filled(book, "b", ["a", "out"])
        self.assertEqual(book.settle(), [])
        book.set_aside("anna", "out")
        self.assertEqual(book.settle(), ["out", "a", "b"])

    def test_settling_again_does_nothing(self):
        book = book_of(anna=50, ben=0)
        tell_filled(book, "a")
        tell_simple(book, "b")
        self.assertEqual(book.settle(), ["a"])
        before = seen(book)
        self.assertEqual(book.settle(), [])
        self.assertEqual(seen(book), before)

    def test_a_need_that_is_done_already(self):
        book = book_of(anna=50, ben=0)
        tell_filled(book, "a")
        book.settle()
        tell_filled(book, "b", ["a"])
        self.assertEqual(book.settle(), ["b"])

    def test_a_gain_paid_does_not_count_towards_this_settling(self):
        book = book_of(anna=1, ben=0)
        tell_filled(book, "a")
        book.tell("b", [("ben", 1)], [("anna", 1)], ["a"], LATE)
        self.assert_refuses(errors.TooLittle, book.set_aside, "ben", "b")
        self.assertEqual(book.settle(), ["a"])
        self.assertEqual(book.settle(), [])
        book.set_aside("ben", "b")
        self.assertEqual(book.settle(), ["b"])
        self.assert_purse(book, "anna", 1, 0)

    def test_a_purse_may_gain_by_several_pacts_at_once(self):
        book = book_of(anna=10, ben=10, carl=0)
        book.tell("a", [("anna", 4)], [("carl", 4)], ["b"], LATE)
        book.tell("b", [("ben", 3)], [("carl", 2), ("ben", 1)], ["a"], LATE)
        book.set_aside("anna", "a")
        book.set_aside("ben", "b")
        self.assertEqual(book.settle(), ["a", "b"])
        self.assert_purse(book, "carl", 6, 0)
        self.assert_purse(book, "ben", 8, 0)

    def test_a_pact_on_its_last_day_is_done(self):
        book = book_of(anna=5, ben=0)
        tell_filled(book, "a", last=3)
        book.pass_days(3)
        self.assertEqual(book.settle(), ["a"])
        self.assertEqual(book.pass_days(1), [])

    def test_a_done_pact_lets_those_that_need_it_be_done_though_its_day_is_over(self):
        book = book_of(anna=5, ben=0)
        tell_filled(book, "a", last=1)
        book.settle()
        book.pass_days(10)
        tell_filled(book, "b", ["a"])
        self.assertEqual(book.settle(), ["b"])


class WhyNotTest(BookTest):
    def setUp(self):
        self.book = book_of(anna=50, ben=0)

    def assert_reasons(self, reasons):
        """Each of these, asked twice, has its reason, and being asked changes nothing."""
        for name, reason in reasons.items():
            with self.subTest(name):
                before = seen(self.book)
                self.assertEqual(self.book.why_not(name), reason)
                self.assertEqual(self.book.why_not(name), reason)
                self.assertEqual(seen(self.book), before)

    def test_a_pact_that_is_not_full(self):
        tell_simple(self.book, "a")
        tell_simple(self.book, "b", ["a", "never"])
        self.assert_reasons({"a": ["a"], "b": ["b"]})

    def test_a_pact_that_settle_would_do(self):
        tell_filled(self.book, "a")
        tell_filled(self.book, "b", ["a", "c"])
        tell_filled(self.book, "c", ["b"])
        self.assert_reasons({"a": [], "b": [], "c": []})
        self.book.settle()
        self.assert_reasons({"a": [], "b": [], "c": []})

    def test_a_pact_that_has_fallen(self):
        tell_filled(self.book, "a")
        self.book.call_off("a")
        self.assert_reasons({"a": ["a"]})

    def test_needs_not_full_and_needs_not_told(self):
        tell_simple(self.book, "a")
        tell_filled(self.book, "b", ["a"])
        tell_filled(self.book, "c", ["b"])
        tell_filled(self.book, "d", ["c", "never"])
        tell_filled(self.book, "e", ["c", "d"])
        self.assert_reasons({
            "b": ["b", "a"], "c": ["c", "b", "a"], "d": ["d", "never"], "e": ["e", "d", "never"]})

    def test_of_several_shortest_the_first_by_the_needs(self):
        tell_simple(self.book, "x")
        tell_simple(self.book, "y")
        tell_filled(self.book, "a", ["x", "y"])
        tell_filled(self.book, "b", ["y", "x"])
        tell_filled(self.book, "c", ["b", "a"])
        tell_filled(self.book, "d", ["a", "b", "c"])
        self.assert_reasons({
            "a": ["a", "x"], "b": ["b", "y"], "c": ["c", "b", "y"], "d": ["d", "a", "x"]})

    def test_ahead_of_settle_and_behind_it(self):
        tell_filled(self.book, "a")
        tell_simple(self.book, "x")
        tell_filled(self.book, "b", ["a", "x"])
        tell_filled(self.book, "c", ["b"])
        self.assert_reasons({"a": [], "b": ["b", "x"], "c": ["c", "b", "x"]})
        self.assertEqual(self.book.settle(), ["a"])
        self.assert_reasons({"a": [], "b": ["b", "x"], "c": ["c", "b", "x"]})
        self.book.set_aside("anna", "x")
        self.assert_reasons({"a": [], "x": [], "b": [], "c": []})
        self.book.draw_back("anna", "b")
        self.assert_reasons({"x": [], "b": ["b"], "c": ["c", "b"]})
        self.assertEqual(self.book.settle(), ["x"])
        self.assert_reasons({"x": [], "b": ["b"], "c": ["c", "b"]})

    def test_it_is_empty_just_where_settle_does_it_or_did_it(self):
        for name, needs in (
                ("a", ["b"]), ("b", ["c", "a"]), ("c", ["a"]), ("d", ["e"]), ("e", ["d", "f"]), ("f", [])):
            tell_simple(self.book, name, needs)
        for name in "fedcba":
            self.book.set_aside("anna", name)
            none = [name for name in self.book.told() if self.book.why_not(name) == []]
            self.book.settle()
            done = [name for name, state in states(self.book).items() if state == "done"]
            self.assertEqual(none, done)

    def test_it_is_the_chain_of_the_full_pacts(self):
        chains = {"a": ["b", "x"], "b": ["a"], "c": [], "d": ["c", "a"]}
        for name, needs in chains.items():
            tell_filled(self.book, name, needs)
        self.assertEqual(greatest(list("abcd"), chains, []), ["c"])
        self.assert_reasons({name: chain(name, list("abcd"), chains, []) for name in chains})
        self.assertEqual(self.book.settle(), ["c"])
        self.assert_reasons({name: chain(name, list("abd"), chains, ["c"]) for name in chains})

    def test_refused_of_what_is_no_pact(self):
        tell_filled(self.book, "a", ["never"])
        for place, thing in enumerate(NO_NAMES + ("never", "anna")):
            with self.subTest(place):
                self.assert_refuses(errors.NoPact, self.book.why_not, thing)


if __name__ == "__main__":
    unittest.main()
