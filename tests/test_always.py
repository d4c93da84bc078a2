"""Tests of points 1 and 15 of DOC.md: what always holds, over long runs of many deeds."""

import copy
import random
import unittest

from escrowbook import errors
from escrowbook.book import Book
from tests.books import LATE, MOST, BookTest, book_of, seen, tell_filled, tell_simple
from tests.interface import METHODS, REFUSALS
from tests.plain import PlainBook

PURSES = ["anna", "ben", "carl", "dora", "emil"]
PACTS = [letter * many for many in (1, 2, 3) for letter in "anbmczy"]
ODD = ["Anna", "", None, True, 0, ["anna"], {"a": 1}, "nobody", "abcdefghijklm"]
AMOUNTS = [1, 2, 3, 4, 5, 8, MOST]
ODD_AMOUNTS = [0, -1, MOST + 1, True, None, "5", [5]]


class Asker:
    """Thinks of deeds, by a chance that is the same for the same seed."""

    def __init__(self, seed):
        self.chance = random.Random(seed)

    def some(self, usual, odd):
        return self.chance.choice(odd if self.chance.random() < 0.03 else usual)

    def purse(self):
        return self.some(PURSES, ODD)

    def pact(self, book):
        return self.some(book.told() or PACTS, ODD + PACTS)

    def amount(self):
        return self.some(AMOUNTS[:6], ODD_AMOUNTS + AMOUNTS[6:])

    def rows(self):
        many = self.some([1, 1, 2, 2, 3], [0, 8, 9])
        purses = self.chance.sample(PURSES, many) if many <= 3 else [self.purse() for _ in range(many)]
        return [[self.some([name], ODD + PURSES), self.amount()] for name in purses]

    def gains(self, parts):
        """Mostly of the same sum as the parts."""
        amounts = [amount for _, amount in parts]
        if self.chance.random() < 0.1 or any(type(amount) is not int for amount in amounts):
            return self.rows()
        self.chance.shuffle(amounts)
        return [[name, amount] for name, amount in zip(self.chance.sample(PURSES, 5), amounts)]

    def tell(self, book):
        parts = self.rows()
        needs = [self.some(PACTS, ODD + PACTS) for _ in range(self.some([0, 1, 1, 2, 3], [8, 9]))]
        untold = [name for name in PACTS if name not in book.told()]
        last = self.some([book.day + days for days in (0, 2, 5, 9, 30)], [book.day - 1, None, True, "9", 10 ** 50])
        return ["tell", self.some(untold or PACTS, PACTS + ODD), parts, self.gains(parts), needs, last]

    def fill(self, book):
        """Set a part of an open pact aside, mostly one that is not, or draw one back."""
        parts = [[purse, name] for name in book.open_names() for purse, _ in book.pacts[name].parts]
        inside = [[purse, name] for purse, name in parts if purse in book.inside_of(name)]
        outside = [row for row in parts if row not in inside]
        anyhow = [[self.purse(), self.pact(book)]] + inside[:1]
        if self.chance.random() < 0.1:
            return ["draw_back"] + self.some(inside or anyhow, anyhow)
        return ["set_aside"] + self.some(outside or anyhow, anyhow)

    def deed(self, book):
        """A deed, thought of for a plain book: the name of a method and what it is passed."""
        kind = self.chance.random()
        if kind < 0.12:
            return ["put", self.purse(), self.amount()]
        if kind < 0.16:
            return ["take", self.purse(), self.amount()]
        if kind < 0.36:
            return self.tell(book)
        if kind < 0.75:
            return self.fill(book)
        if kind < 0.80:
            return ["draw_back", self.purse(), self.pact(book)]
        if kind < 0.83:
            return ["call_off", self.pact(book)]
        if kind < 0.88:
            return ["pass_days", self.some([1, 1, 2, 3], [0, -1, True, None, "1", 40])]
        if kind < 0.93:
            return ["settle"]
        if kind < 0.95:
            return ["open_purse", self.some(PURSES, ODD)]
        asked = self.chance.choice(["free_of", "aside_of", "state_of", "inside_of", "full", "why_not"])
        return [asked, self.purse() if asked in ("free_of", "aside_of") else self.pact(book)]


def outcome(book, deed):
    """The answer of the deed, or the class that it was refused with."""
    try:
        return getattr(book, deed[0])(*deed[1:])
    except errors.BookError as refusal:
        return type(refusal)


def spoil(thing):
    """Change a list, and the lists in it, as an asker may do with what is his own."""
    if isinstance(thing, list):
        for row in thing:
            spoil(row)
        thing.reverse()
        thing.append("spoilt")


class Run:
    """A book and a plain one, to both of which the same is done."""

    def __init__(self, seed):
        self.asker = Asker(seed)
        self.book = Book()
        self.plain = PlainBook()
        self.kept = []
        self.outcomes = {}
        for name in PURSES[:4 + seed % 2]:
            self.both(["open_purse", name])
            self.both(["put", name, 30])

    def both(self, deed):
        """The deed's outcome in both books; what is handed to the book and told by it is kept."""
        given = copy.deepcopy(deed)
        found = outcome(self.book, given)
        self.kept.append((given, copy.deepcopy(given)))
        self.kept.append((found, copy.deepcopy(found)))
        wanted = outcome(self.plain, copy.deepcopy(deed))
        # A kind of deed, and what came of it: a refusal, something, or nothing.
        self.outcomes.setdefault(deed[0], set()).add(
            wanted.__name__ if isinstance(wanted, type) else bool(wanted))
        return found, wanted


class LongRunTest(BookTest):
    def assert_sums(self, run):
        book = run.book
        free = [book.free_of(name) for name in book.purses()]
        aside = [book.aside_of(name) for name in book.purses()]
        self.assertEqual(sum(free) + sum(aside), run.plain.put_less_taken)
        self.assertGreaterEqual(min(free + aside), 0)

    def step(self, run):
        deed = run.asker.deed(run.plain)
        before = seen(run.book)
        found, wanted = run.both(deed)
        self.assertEqual(found, wanted, deed)
        self.assertIs(type(found), type(wanted))
        after = seen(run.book)
        if isinstance(found, type):
            self.assertEqual(after, before, deed)
        self.assertEqual(after, seen(run.plain), deed)
        self.assert_sums(run)

    def test_long_runs(self):
        outcomes = {}
        for seed in range(30):
            run = Run(seed)
            for _ in range(200):
                self.step(run)
            # What was told or handed in early has stayed as it was to the end.
            for thing, held in run.kept:
                self.assertEqual(thing, held)
            for deed, kinds in run.outcomes.items():
                outcomes.setdefault(deed, set()).update(kinds)
        self.assert_telling(outcomes)

    def assert_telling(self, outcomes):
        """The runs are worth nothing unless all kinds of outcomes came up in them."""
        self.assertEqual(set(outcomes), set(METHODS) - {"purses", "told"})
        for deed in ("call_off", "pass_days", "settle", "why_not"):
            self.assertIn(True, outcomes[deed], deed)
        for deed in ("pass_days", "settle", "why_not"):
            self.assertIn(False, outcomes[deed], deed)
        for deed in ("put", "take", "tell", "set_aside", "draw_back"):
            self.assertIn(False, outcomes[deed], deed)
        found = set().union(*outcomes.values())
        self.assertGreaterEqual(found, set(REFUSALS))

    def test_lists_that_an_asker_changes_change_nothing(self):
        for seed in range(100, 110):
            run = Run(seed)
            for _ in range(150):
                self.step(run)
                for thing in (run.book.purses(), run.book.told()):
                    spoil(thing)
                for name in run.book.told():
                    spoil(run.book.inside_of(name))
                    spoil(run.book.why_not(name))
                for thing, _ in run.kept:
                    spoil(thing)
                run.kept.clear()
                self.assertEqual(seen(run.book), seen(run.plain))

    def test_books_side_by_side(self):
        runs = [Run(seed) for seed in (7, 8, 9)]
        for _ in range(150):
            for run in runs:
                others = [seen(other.book) for other in runs if other is not run]
                self.step(run)
                self.assertEqual([seen(other.book) for other in runs if other is not run], others)

    def test_a_book_with_refusals_goes_on_as_one_without(self):
        for seed in range(200, 210):
            run = Run(seed)
            twin = Run(seed).book
            for _ in range(150):
                deed = run.asker.deed(run.plain)
                found, _ = run.both(deed)
                if not isinstance(found, type):
                    self.assertEqual(outcome(twin, deed), found)
                self.assertEqual(seen(twin), seen(run.book))


class ToldTest(BookTest):
    """What is told is the asker's own."""

    def setUp(self):
        self.book = book_of(anna=50, ben=5)
        tell_filled(self.book, "a")
        tell_filled(self.book, "b", ["x"])
        tell_simple(self.book, "c", ["b"], last=3)

    def answers(self):
        book = self.book
        return [book.purses(), book.told(), book.inside_of("a"), book.inside_of("b"), book.why_not("a"),
                book.why_not("b"), book.why_not("c")]

    def test_what_is_told_is_told_anew_each_time(self):
        first, second = self.answers(), self.answers()
        self.assertEqual(first, second)
        for one, other in zip(first, second):
            self.assertIsNot(one, other)

    def test_changing_what_was_told_changes_nothing(self):
        before, answers = seen(self.book), self.answers()
        for answer in self.answers():
            spoil(answer)
            self.assertEqual(seen(self.book), before)
            answer.clear()
            self.assertEqual(seen(self.book), before)
        self.assertEqual(self.answers(), answers)

    def test_changing_what_a_deed_told_changes_nothing(self):
        for deed, named in ((self.book.settle, ["a"]), (lambda: self.book.pass_days(4), ["c"]),
                            (lambda: self.book.call_off("b"), ["b"])):
            answer = deed()
            self.assertEqual(answer, named)
            before = seen(self.book)
            spoil(answer)
            answer.clear()
            self.assertEqual(seen(self.book), before)

    def test_later_deeds_do_not_change_what_was_told(self):
        answers = self.answers()
        held = copy.deepcopy(answers)
        day = self.book.day
        settled = self.book.settle()
        passed = self.book.pass_days(4)
        fallen = self.book.call_off("b")
        self.book.open_purse("zoe")
        tell_filled(self.book, "d")
        self.book.draw_back("anna", "d")
        self.book.pass_days(LATE)
        self.assertEqual((settled, passed, fallen, day), (["a"], ["c"], ["b"], 0))
        self.assertEqual(answers, held)


class SideBySideTest(BookTest):
    def test_books_know_nothing_of_each_other(self):
        one, other = book_of(anna=5, ben=0), book_of(ben=7)
        empty = seen(other)
        tell_filled(one, "a")
        one.pass_days(2)
        self.assertEqual(seen(other), empty)
        self.assert_refuses(errors.NoPurse, other.put, "anna", 1)
        self.assert_refuses(errors.NoPact, other.call_off, "a")
        other.open_purse("anna")
        other.put("anna", 1)
        tell_simple(other, "a", ["b"])
        held = seen(one)
        self.assertEqual(other.call_off("a"), ["a"])
        self.assertEqual(seen(one), held)
        self.assertEqual(one.settle(), ["a"])
        self.assertEqual((one.day, other.day), (2, 0))
        self.assert_purse(other, "ben", 7, 0)

    def test_one_list_may_be_handed_to_two_books(self):
        parts, gains, needs = [("anna", 2)], [("ben", 2)], ["b"]
        books = [book_of(anna=5, ben=0) for _ in range(2)]
        for book in books:
            book.tell("a", parts, gains, needs, LATE)
            book.set_aside("anna", "a")
        books[0].call_off("a")
        self.assertEqual(books[1].inside_of("a"), ["anna"])
        tell_filled(books[1], "b")
        self.assertEqual(books[1].settle(), ["a", "b"])
        self.assertEqual((parts, gains, needs), ([("anna", 2)], [("ben", 2)], ["b"]))
        self.assert_purse(books[0], "anna", 5, 0)
        self.assert_purse(books[1], "anna", 2, 0)


if __name__ == "__main__":
    unittest.main()
