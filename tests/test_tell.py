"""Tests of points 6 and 7 of DOC.md: telling a pact."""

import copy
import itertools
import unittest

from escrowbook import errors
from tests.books import LATE, MOST, BookTest, book_of, seen, states, tell_filled, tell_simple
from tests.refusing import NO_AMOUNTS, NO_NAMES, NO_WHOLE_NUMBERS, Number

EIGHT = ["a", "b", "c", "d", "e", "f", "g", "h"]

# A telling that is well, and by which faults each argument of it may be wrong, in the order in
# which point 6 asks for them: (the refusal, the argument that has the fault).
WELL = {
    "name": "rent",
    "parts": [("anna", 5), ("ben", 3)],
    "gains": [("carl", 7), ("anna", 1)],
    "needs": ["one", "never"],
    "last": 7,
}

NINE_PAIRS = [(name, 1) for name in EIGHT + ["anna"]]

FAULTS = (
    ("name", (("NoName", "Rent"), ("NoName", None), ("NoName", ["rent"]),
              ("Taken", "one"), ("Taken", "finished"), ("Taken", "over"))),
    ("parts", (("NoRow", []), ("NoRow", NINE_PAIRS),
               ("NoPurse", [("anna", 5), ("dora", 3)]), ("NoPurse", [(["anna"], 5), ("ben", 3)]),
               ("Twice", [("anna", 5), ("anna", 3)]),
               ("NoAmount", [("anna", 8), ("ben", 0)]), ("NoAmount", [("anna", True), ("ben", 3)]))),
    ("gains", (("NoRow", []), ("NoRow", NINE_PAIRS),
               ("NoPurse", [("dora", 5), ("anna", 3)]), ("NoPurse", [(None, 8)]),
               ("Twice", [("carl", 5), ("carl", 3)]),
               ("NoAmount", [("carl", 8), ("ben", 0)]), ("NoAmount", [("carl", MOST + 1)]))),
    ("gains", (("Uneven", [("carl", 7)]), ("Uneven", [("carl", 8), ("anna", 1)]))),
    ("needs", (("NoRow", EIGHT + ["i"]), ("NoRow", ["over"] * 9),
               ("NoName", ["one", "No"]), ("NoName", [["one"]]),
               ("Twice", ["one", "one"]), ("Twice", ["rent"]),
               ("Fallen", ["over"]))),
    ("last", (("NoDay", 2), ("NoDay", True), ("NoDay", None), ("NoDay", "7"))),
)


class TellTest(BookTest):
    def setUp(self):
        """A pact of each state, on day 3."""
        self.book = book_of(anna=20, ben=10, carl=0, **{name: 0 for name in EIGHT})
        tell_filled(self.book, "finished")
        self.book.settle()
        tell_simple(self.book, "over")
        self.book.call_off("over")
        tell_simple(self.book, "one")
        self.book.pass_days(3)

    def tell(self, name="rent", **things):
        """Tell a pact that is well but for these things."""
        told = copy.deepcopy(WELL)
        told.update(things, name=name)
        self.book.tell(**told)

    def assert_wrong(self, kind, **things):
        """A telling that is well but for these things is refused and changes nothing."""
        before = seen(self.book)
        self.assert_refused(kind, lambda: self.tell(**things))
        self.assertEqual(seen(self.book), before)

    def assert_well(self, **things):
        self.tell(**things)
        name = things.get("name", "rent")
        self.assertEqual(self.book.state_of(name), "open")
        self.assertEqual(self.book.told()[-1], name)


class ToldTest(TellTest):
    def test_a_pact_that_is_told_is_open_and_nothing_is_set_aside(self):
        before = seen(self.book)
        self.tell()
        self.assertEqual(self.book.told(), ["finished", "over", "one", "rent"])
        self.assertEqual(self.book.state_of("rent"), "open")
        self.assertEqual(self.book.inside_of("rent"), [])
        self.assertIs(self.book.full("rent"), False)
        self.assertEqual(seen(self.book)["purses"], before["purses"])
        self.assertEqual(seen(self.book)["pacts"][:-1], before["pacts"])

    def test_pacts_are_told_in_order(self):
        names = ["".join(letters) for letters in itertools.product("zmab", repeat=4)]
        for name in names:
            self.tell(name)
        self.assertEqual(self.book.told(), ["finished", "over", "one"] + names)

    def test_a_need_may_be_open_done_or_not_told(self):
        self.assert_well(needs=["one", "finished", "never"])

    def test_what_is_done_or_fallen_stays_so(self):
        tell_filled(self.book, "later")
        for _ in range(3):
            self.book.settle()
            self.book.pass_days(LATE * 2)
            for deed in (self.book.call_off, lambda name: self.book.set_aside("anna", name),
                         lambda name: self.book.draw_back("anna", name)):
                for name in ("finished", "over", "later", "one"):
                    self.assert_refused(errors.NotOpen, deed, name)
            self.assertEqual(states(self.book), {
                "finished": "done", "over": "fallen", "one": "fallen", "later": "done"})


class NameTest(TellTest):
    def test_what_is_no_name_is_refused(self):
        for place, thing in enumerate(NO_NAMES):
            with self.subTest(place):
                self.assert_wrong(errors.NoName, name=thing)

    def test_a_name_told_before_is_refused_whatever_came_of_it(self):
        self.assertEqual(states(self.book), {"finished": "done", "over": "fallen", "one": "open"})
        for name in ("finished", "over", "one"):
            self.assert_wrong(errors.Taken, name=name)

    def test_the_shortest_and_the_longest_name(self):
        self.assert_well(name="a")
        self.assert_well(name="abcdefghijkl")


class RowsTest(TellTest):
    """What is asked of the parts and, the same, of the gains."""

    def both(self):
        """How to hand in pairs: as the parts, and as the gains of as much."""
        def as_parts(pairs):
            return {"parts": pairs}

        def as_gains(pairs):
            return {"gains": pairs}

        return as_parts, as_gains

    def assert_both_wrong(self, kind, pairs):
        for given in self.both():
            with self.subTest(given.__name__):
                self.assert_wrong(kind, **given(pairs))

    def test_none_and_nine(self):
        self.assert_both_wrong(errors.NoRow, [])
        self.assert_both_wrong(errors.NoRow, NINE_PAIRS)
        self.assert_both_wrong(errors.NoRow, NINE_PAIRS * 2)

    def test_one_and_eight(self):
        eight = [(name, 1) for name in EIGHT]
        self.assert_well(name="few", parts=[("anna", 8)], gains=[("ben", 8)])
        self.assert_well(name="many", parts=eight, gains=[("anna", 8)])
        self.assert_well(name="most", parts=eight, gains=eight)
        self.assert_well(name="less", parts=[("anna", 8)], gains=eight)

    def test_too_many_go_ahead_of_what_is_wrong_in_them(self):
        for pair in (("nobody", 1), ("a", 1), ("anna", 0), (None, None)):
            self.assert_both_wrong(errors.NoRow, [pair] + NINE_PAIRS[:8])
            self.assert_both_wrong(errors.NoRow, NINE_PAIRS[:8] + [pair])

    def test_no_purse(self):
        for place, thing in enumerate(NO_NAMES + ("dora", "one", "rent")):
            with self.subTest(place):
                self.assert_both_wrong(errors.NoPurse, [(thing, 8)])
                self.assert_both_wrong(errors.NoPurse, [("ben", 3), (thing, 5)])

    def test_a_purse_that_stands_ahead(self):
        self.assert_both_wrong(errors.Twice, [("anna", 4), ("anna", 4)])
        self.assert_both_wrong(errors.Twice, [("anna", 4), ("ben", 2), ("anna", 2)])
        self.assert_both_wrong(errors.Twice, [(name, 1) for name in EIGHT[:7]] + [("a", 1)])
        self.assert_both_wrong(errors.Twice, [("anna", 2)] * 4)

    def test_a_purse_may_stand_among_the_parts_and_among_the_gains(self):
        self.assert_well(parts=[("anna", 8)], gains=[("anna", 8)])

    def test_no_amount(self):
        for place, thing in enumerate(NO_AMOUNTS):
            with self.subTest(place):
                self.assert_both_wrong(errors.NoAmount, [("anna", thing)])
                self.assert_both_wrong(errors.NoAmount, [("ben", 3), ("anna", thing)])

    def test_which_goes_first_in_one_pair(self):
        self.assert_both_wrong(errors.NoPurse, [("dora", 0)])
        self.assert_both_wrong(errors.NoPurse, [(None, None)])
        self.assert_both_wrong(errors.NoPurse, [("anna", 4), ("dora", True)])
        self.assert_both_wrong(errors.Twice, [("anna", 4), ("anna", 0)])
        self.assert_both_wrong(errors.Twice, [("anna", 8), ("anna", None)])

    def test_a_pair_ahead_goes_first(self):
        wrong = {"NoPurse": ("dora", 1), "Twice": ("ben", 1), "NoAmount": ("carl", 0)}
        for ahead, behind in itertools.permutations(wrong, 2):
            pairs = [("ben", 1), wrong[ahead], ("anna", 1), wrong[behind]]
            with self.subTest(ahead, behind=behind):
                self.assert_both_wrong(getattr(errors, ahead), pairs)

    def test_a_purse_that_is_none_does_not_stand_twice(self):
        self.assert_both_wrong(errors.NoPurse, [("dora", 4), ("dora", 4)])

    def test_a_pair_may_be_a_list(self):
        self.assert_well(parts=[["anna", 5], ["ben", 3]], gains=[["carl", 8]])
        self.book.set_aside("ben", "rent")
        self.assertEqual(self.book.aside_of("ben"), 3)


class SumsTest(TellTest):
    def test_uneven_sums(self):
        self.assert_wrong(errors.Uneven, parts=[("anna", 5)], gains=[("ben", 4)])
        self.assert_wrong(errors.Uneven, parts=[("anna", 4)], gains=[("ben", 5)])
        self.assert_wrong(errors.Uneven, parts=[("anna", 2), ("ben", 2)], gains=[("carl", 5)])
        self.assert_wrong(errors.Uneven, parts=[("anna", 1)], gains=[("ben", MOST)])

    def test_even_sums_of_other_amounts(self):
        self.assert_well(parts=[("anna", 1), ("ben", 6)], gains=[("carl", 5), ("a", 2)])

    def test_as_many_pairs_may_have_other_sums(self):
        self.assert_wrong(errors.Uneven, parts=[("anna", 1), ("ben", 2)], gains=[("a", 2), ("b", 2)])

    def test_sums_above_the_greatest_amount(self):
        eight = [(name, MOST) for name in EIGHT]
        self.assert_well(name="great", parts=eight, gains=eight)
        self.assert_well(
            name="greater", parts=[("anna", MOST), ("ben", MOST - 1)], gains=[("a", MOST - 1), ("b", MOST)])
        self.assert_wrong(errors.Uneven, parts=eight, gains=eight[:7])
        self.assert_wrong(errors.Uneven, parts=eight, gains=eight[:7] + [("h", MOST - 1)])
        self.assert_wrong(errors.Uneven, parts=[("anna", MOST), ("ben", 1)], gains=[("a", MOST)])

    def test_great_sums_are_paid_to_the_last_one(self):
        for name in EIGHT:
            self.book.put(name, MOST)
        parts = [(name, MOST) for name in EIGHT]
        gains = [("anna", MOST - 7)] + [(name, MOST) for name in EIGHT[1:]] + [("ben", 7)]
        self.assert_wrong(errors.NoRow, parts=parts, gains=gains)
        gains = [("anna", MOST - 7)] + [(name, MOST) for name in EIGHT[2:]] + [("ben", 7)]
        self.assert_wrong(errors.Uneven, parts=parts, gains=gains)
        self.assert_well(parts=parts[1:], gains=gains, needs=[])
        for name in EIGHT[1:]:
            self.book.set_aside(name, "rent")
        self.assertEqual(self.book.settle(), ["rent"])
        self.assert_purse(self.book, "anna", 19 + MOST - 7, 0)
        self.assert_purse(self.book, "b", 0, 0)
        self.assert_purse(self.book, "h", MOST, 0)


class NeedsTest(TellTest):
    def test_none_and_eight_and_nine(self):
        self.assert_well(name="few", needs=[])
        self.assert_well(name="many", needs=EIGHT)
        self.assert_wrong(errors.NoRow, needs=EIGHT + ["i"])
        self.assert_wrong(errors.NoRow, needs=(EIGHT + ["i"]) * 3)

    def test_too_many_go_ahead_of_what_is_wrong_in_them(self):
        for need in ("No", "a", "rent", "over", None):
            self.assert_wrong(errors.NoRow, needs=[need] + EIGHT)
            self.assert_wrong(errors.NoRow, needs=EIGHT + [need])

    def test_no_name(self):
        for place, thing in enumerate(NO_NAMES):
            with self.subTest(place):
                self.assert_wrong(errors.NoName, needs=[thing])
                self.assert_wrong(errors.NoName, needs=["one", "never", thing])

    def test_a_need_that_stands_ahead(self):
        self.assert_wrong(errors.Twice, needs=["one", "one"])
        self.assert_wrong(errors.Twice, needs=["never", "one", "never"])
        self.assert_wrong(errors.Twice, needs=["finished", "finished"])
        self.assert_wrong(errors.Twice, needs=EIGHT[:7] + ["a"])

    def test_the_pact_itself(self):
        self.assert_wrong(errors.Twice, needs=["rent"])
        self.assert_wrong(errors.Twice, needs=["one", "rent"])
        self.assert_wrong(errors.Twice, needs=["".join(["re", "nt"])])
        self.assert_wrong(errors.Twice, needs=EIGHT[:7] + ["rent"])

    def test_a_need_that_has_fallen(self):
        self.assert_wrong(errors.Fallen, needs=["over"])
        self.assert_wrong(errors.Fallen, needs=["one", "finished", "over"])
        self.book.call_off("one")
        self.assert_wrong(errors.Fallen, needs=["one"])

    def test_a_need_ahead_goes_first(self):
        self.assert_wrong(errors.NoName, needs=["No", "rent", "over"])
        self.assert_wrong(errors.NoName, needs=["one", None, "one", "over"])
        self.assert_wrong(errors.Twice, needs=["rent", "over", "No"])
        self.assert_wrong(errors.Twice, needs=["rent", "No", "over"])
        self.assert_wrong(errors.Twice, needs=["one", "one", "over"])
        self.assert_wrong(errors.Twice, needs=["one", "one", "No"])
        self.assert_wrong(errors.Fallen, needs=["over", "rent"])
        self.assert_wrong(errors.Fallen, needs=["one", "over", "one"])
        self.assert_wrong(errors.Fallen, needs=["over", "over"])
        self.assert_wrong(errors.Fallen, needs=["over", "No"])

    def test_a_name_of_a_purse_may_be_a_need(self):
        self.assert_well(needs=["anna", "nobody"])


class LastDayTest(TellTest):
    def test_the_day_itself_and_one_less(self):
        self.assertEqual(self.book.day, 3)
        self.assert_well(last=3)
        for last in (2, 1, 0, -1, -3, -(10 ** 5000)):
            self.assert_wrong(errors.NoDay, name="lease", last=last)
        self.assert_well(name="lease", last=4)

    def test_on_day_0(self):
        book = book_of(anna=1, ben=0)
        self.assert_refuses(errors.NoDay, book.tell, "rent", [("anna", 1)], [("ben", 1)], [], -1)
        self.assert_refuses(errors.NoDay, book.tell, "rent", [("anna", 1)], [("ben", 1)], [], False)
        book.tell("rent", [("anna", 1)], [("ben", 1)], [], 0)
        self.assertEqual(states(book), {"rent": "open"})

    def test_a_very_great_day(self):
        self.assert_well(last=10 ** 5000)
        self.assert_well(name="lease", last=MOST + 1)

    def test_what_is_no_whole_number(self):
        for place, thing in enumerate(NO_WHOLE_NUMBERS + (Number(7),)):
            with self.subTest(place):
                self.assert_wrong(errors.NoDay, last=thing)


class OrderTest(TellTest):
    def test_of_two_faults_in_two_arguments_the_one_ahead_is_told(self):
        for ahead, behind in itertools.combinations(FAULTS, 2):
            if ahead[0] == behind[0]:
                continue
            for (kind, first), (other, second) in itertools.product(ahead[1], behind[1]):
                with self.subTest(kind, first=first, other=other, second=second):
                    self.assert_wrong(getattr(errors, kind), **{ahead[0]: first, behind[0]: second})

    def test_each_fault_alone(self):
        for argument, faults in FAULTS:
            for kind, thing in faults:
                with self.subTest(kind, argument=argument):
                    self.assert_wrong(getattr(errors, kind), **{argument: thing})

    def test_all_faults_at_once_are_told_one_after_the_other(self):
        things = {"name": None, "parts": [], "gains": [], "needs": ["rent"], "last": None}
        for kind, argument, better in (
                ("NoName", "name", "one"), ("Taken", "name", "rent"),
                ("NoRow", "parts", [("dora", 0)]), ("NoPurse", "parts", [("anna", 0)]),
                ("NoAmount", "parts", [("anna", 5), ("anna", 0)]), ("Twice", "parts", [("anna", 5)]),
                ("NoRow", "gains", [("dora", 0)]), ("NoPurse", "gains", [("anna", 0)]),
                ("NoAmount", "gains", [("anna", 4), ("anna", 0)]), ("Twice", "gains", [("anna", 4)]),
                ("Uneven", "gains", [("anna", 5)]),
                ("Twice", "needs", ["over"] * 9), ("NoRow", "needs", ["over", None]),
                ("Fallen", "needs", [None]), ("NoName", "needs", []),
                ("NoDay", "last", 2), ("NoDay", "last", 3)):
            with self.subTest(kind, argument=argument):
                self.assert_wrong(getattr(errors, kind), **things)
                things[argument] = better
        self.assert_well(**things)

    def test_a_name_that_was_refused_can_be_told_rightly_later(self):
        for argument, faults in FAULTS[1:]:
            for kind, thing in faults:
                self.assert_wrong(getattr(errors, kind), **{argument: thing})
                self.assert_refuses(errors.NoPact, self.book.state_of, "rent")
        self.assertEqual(self.book.told(), ["finished", "over", "one"])
        self.assert_well()

    def test_a_telling_that_was_refused_is_no_one_s_need(self):
        self.assert_wrong(errors.NoDay, needs=["one"], last=2)
        self.assertEqual(self.book.call_off("one"), ["one"])


class ListsTest(TellTest):
    """What is handed in is not changed, and is not looked at again."""

    def given(self):
        return {"parts": [["anna", 5], ["ben", 3]], "gains": [["carl", 7], ["anna", 1]],
                "needs": ["one", "never"], "last": 9}

    def test_the_lists_stay_as_they_were(self):
        given = self.given()
        self.tell(**given)
        self.assertEqual(given, self.given())
        self.assertEqual(self.book.call_off("one"), ["one", "rent"])
        self.assertEqual(given, self.given())

    def test_the_lists_of_a_refused_telling_stay_as_they_were(self):
        for argument, faults in FAULTS:
            for kind, thing in faults:
                given = self.given() | {"name": "rent", argument: thing}
                held = {name: list(worth) for name, worth in given.items() if isinstance(worth, list)}
                self.assert_refused(getattr(errors, kind), lambda: self.book.tell(**given))
                for name, worth in held.items():
                    self.assertEqual(given[name], worth)

    def test_changing_the_lists_later_changes_nothing(self):
        given = self.given()
        self.book.tell(name="rent", **given)
        self.book.tell(name="lease", **given)
        given["parts"][0][0] = "carl"
        given["parts"][1][1] = 1
        given["parts"].append(["carl", 1])
        given["gains"][0][1] = 70
        given["gains"].reverse()
        del given["gains"][0]
        given["needs"][0] = "over"
        given["needs"].append("rent")
        for name in ("rent", "lease"):
            self.book.set_aside("ben", name)
            self.assertIs(self.book.full(name), False)
            self.book.set_aside("anna", name)
            self.assertIs(self.book.full(name), True)
            self.assertEqual(self.book.inside_of(name), ["anna", "ben"])
            self.assertEqual(self.book.why_not(name), [name, "one"])
        self.assert_purse(self.book, "anna", 9, 10)
        self.assert_purse(self.book, "ben", 5, 6)
        self.book.set_aside("anna", "one")
        tell_filled(self.book, "never")
        self.assertEqual(self.book.settle(), ["one", "rent", "lease", "never"])
        self.assert_purse(self.book, "anna", 9, 0)
        self.assert_purse(self.book, "carl", 14, 0)

    def test_emptied_lists_change_nothing(self):
        given = self.given()
        self.book.tell(name="rent", **given)
        for name in ("parts", "gains", "needs"):
            given[name].clear()
        self.book.set_aside("anna", "rent")
        self.assertIs(self.book.full("rent"), False)
        self.book.set_aside("ben", "rent")
        self.assertEqual(self.book.settle(), [])
        self.assertEqual(self.book.call_off("one"), ["one", "rent"])
        self.assert_purse(self.book, "ben", 11, 0)

    def test_one_list_may_be_handed_in_as_parts_and_gains(self):
        pairs = [("anna", 2), ("ben", 1)]
        self.assert_well(parts=pairs, gains=pairs, needs=[])
        pairs.clear()
        self.book.set_aside("anna", "rent")
        self.book.set_aside("ben", "rent")
        before = [self.book.free_of(name) for name in ("anna", "ben")]
        self.assertEqual(self.book.settle(), ["rent"])
        after = [self.book.free_of(name) for name in ("anna", "ben")]
        self.assertEqual([b - a for a, b in zip(before, after)], [2, 1])


if __name__ == "__main__":
    unittest.main()
