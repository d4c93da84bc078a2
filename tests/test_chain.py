"""Tests of point 14 of DOC.md: chain of escrowbook/settling.py."""

import copy
import random
import unittest

from escrowbook.settling import chain
from tests.needs import any_needs, names_of
from tests.plain import plain_chain, plain_greatest


class ChainTest(unittest.TestCase):
    def assert_chain(self, found, name, full, needs, done=()):
        given = (name, list(full), needs, list(done))
        held = copy.deepcopy(given)
        self.assertEqual(chain(*given), found)
        self.assertEqual(given, held)

    def test_a_name_that_is_done(self):
        self.assert_chain([], "a", [], {}, ["a"])
        self.assert_chain([], "a", ["b"], {"b": ["x"]}, ["c", "a"])

    def test_a_name_that_is_in_none_of_the_lists(self):
        self.assert_chain(["a"], "a", [], {})
        self.assert_chain(["a"], "a", ["b"], {"b": ["a"]}, ["c"])

    def test_a_name_that_has_needs_but_is_not_full(self):
        self.assert_chain(["a"], "a", ["b"], {"a": ["x"], "b": []}, [])

    def test_a_full_name_that_can_be_done(self):
        self.assert_chain([], "a", ["a"], {"a": []})
        self.assert_chain([], "a", ["a"], {"a": ["x"]}, ["x"])
        self.assert_chain([], "a", ["a"], {"a": ["a"]})
        self.assert_chain([], "a", "ab", {"a": ["b"], "b": ["a"]})
        self.assert_chain([], "c", "abc", {"a": ["b"], "b": ["a"], "c": ["a", "x", "b"]}, ["x"])

    def test_that_others_can_not_be_done_is_no_reason(self):
        self.assert_chain([], "a", "ab", {"a": [], "b": ["x", "a"]})

    def test_a_full_name_with_a_need_in_none_of_the_lists(self):
        self.assert_chain(["a", "x"], "a", ["a"], {"a": ["x"]})
        self.assert_chain(["a", "x"], "a", ["a"], {"a": ["y", "x", "z"]}, ["y"])

    def test_a_chain_over_several(self):
        needs = {"a": ["b"], "b": ["c"], "c": ["d"], "d": ["x"]}
        self.assert_chain(["a", "b", "c", "d", "x"], "a", "dcba", needs)
        self.assert_chain(["c", "d", "x"], "c", "abcd", needs)
        self.assert_chain([], "a", "abcd", needs, ["x"])

    def test_a_ring_that_leads_out(self):
        needs = {"a": ["b"], "b": ["c"], "c": ["a", "x"]}
        self.assert_chain(["a", "b", "c", "x"], "a", "abc", needs)
        self.assert_chain(["b", "c", "x"], "b", "abc", needs)
        self.assert_chain(["c", "x"], "c", "abc", needs)
        self.assert_chain([], "c", "abc", needs, ["x"])

    def test_a_need_of_itself_and_one_told_twice(self):
        self.assert_chain(["a", "x"], "a", "a", {"a": ["a", "a", "x"]})
        self.assert_chain(["a", "b", "x"], "a", "ab", {"a": ["b", "b"], "b": ["b", "x", "x"]})
        self.assert_chain(
            ["a", "c", "x"], "a", "abc", {"a": ["c", "b", "c"], "b": ["x"], "c": ["x"]})

    def test_it_does_not_go_by_a_name_that_is_done(self):
        needs = {"a": ["d", "b"], "b": ["c"], "c": ["y"], "d": ["x"]}
        self.assert_chain(["a", "b", "c", "y"], "a", "abc", needs, ["d"])

    def test_it_ends_at_the_first_name_that_is_neither(self):
        needs = {"a": ["x"], "x": ["y"]}
        self.assert_chain(["a", "x"], "a", "a", needs)

    def test_a_shorter_list_goes_ahead_of_an_earlier_one(self):
        needs = {"a": ["b", "c"], "b": ["d"], "c": ["x"], "d": ["y"]}
        self.assert_chain(["a", "c", "x"], "a", "abcd", needs)
        needs = {"a": ["b", "x"], "b": ["y"]}
        self.assert_chain(["a", "x"], "a", "ab", needs)
        needs = {"a": ["b", "c"], "b": ["e"], "c": ["d"], "d": ["x"], "e": ["f"], "f": ["y"]}
        self.assert_chain(["a", "c", "d", "x"], "a", "fedcba", needs)

    def test_of_several_shortest_lists_that_differ_at_once(self):
        for full in ("abcd", "dcba", "cbda"):
            self.assert_chain(["a", "y"], "a", full, {"a": ["y", "x"], "b": [], "c": [], "d": []})
            needs = {"a": ["c", "b"], "b": ["x"], "c": ["y"], "d": []}
            self.assert_chain(["a", "c", "y"], "a", full, needs)
            needs = {"a": ["d", "b", "c"], "b": ["x"], "c": ["x"], "d": ["a"]}
            self.assert_chain(["a", "b", "x"], "a", full, needs)

    def test_of_several_shortest_lists_that_differ_late(self):
        needs = {"a": ["b"], "b": ["c"], "c": ["d", "y", "x"], "d": ["z"]}
        self.assert_chain(["a", "b", "c", "y"], "a", "abcd", needs)
        needs = {"a": ["b"], "b": ["d", "c"], "c": ["x"], "d": ["y"]}
        self.assert_chain(["a", "b", "d", "y"], "a", "abcd", needs)

    def test_the_first_place_at_which_two_differ_decides(self):
        # By the last place alone d's way would be the first: x is the first need of d.
        needs = {"a": ["c", "d"], "c": ["a", "b", "x"], "d": ["x"], "b": ["a"]}
        self.assert_chain(["a", "c", "x"], "a", "abcd", needs)
        # Two ways to one name: by the earlier need, though the later one is asked no less near.
        needs = {"a": ["e", "b"], "b": ["c"], "c": ["x"], "e": ["f", "c"], "f": ["a"]}
        self.assert_chain(["a", "e", "c", "x"], "a", "abcef", needs)

    def test_early_and_late_differences_together(self):
        needs = {
            "a": ["b", "c", "d"],
            "b": ["a", "b"], "c": ["f", "e"], "d": ["g"],
            "e": ["x"], "f": ["b", "y"], "g": ["z"],
        }
        self.assert_chain(["a", "c", "f", "y"], "a", "abcdefg", needs)
        self.assert_chain(["a", "c", "f", "y"], "a", "gfedcba", needs)
        self.assert_chain(["a", "c", "e", "x"], "a", "abcdefg", needs, ["y"])
        self.assert_chain(["a", "d", "g", "z"], "a", "abcdefg", needs, ["y", "x"])
        self.assert_chain([], "a", "abcdefg", needs, ["z", "y", "x"])

    def test_the_order_of_the_alphabet_is_nothing(self):
        needs = {"m": ["z", "a"], "z": ["y", "b"], "a": ["c"]}
        self.assert_chain(["m", "z", "y"], "m", "amz", needs)

    def test_forty_names(self):
        names = names_of(40)
        onward = {name: names[at + 1:at + 2] for at, name in enumerate(names)} | {names[-1]: ["x"]}
        for order in (names, names[::-1]):
            self.assert_chain(names + ["x"], names[0], order, onward)
            self.assert_chain(names[-1:] + ["x"], names[-1], order, onward)
            self.assert_chain([], names[0], order, onward, ["x"])
            self.assert_chain([], names[7], order, onward | {names[-1]: names[:1]})
            every = {name: names + ["x"] for name in names}
            self.assert_chain([names[3], "x"], names[3], order, every)

    def test_hundreds_of_ways_are_no_burden(self):
        # Ten steps with eight ways each: over a thousand million lists.
        rows = [names_of(80)[at:at + 8] for at in range(0, 80, 8)]
        needs = {name: behind for ahead, behind in zip(rows, rows[1:]) for name in ahead}
        needs |= {name: ["x"] for name in rows[-1]}
        found = [row[0] for row in rows] + ["x"]
        self.assert_chain(found, rows[0][0], list(needs), needs)
        self.assert_chain([], rows[0][0], list(needs), needs, ["x"])

    def test_against_all_lists(self):
        chance = random.Random(4)
        lengths = set()
        for _ in range(1500):
            full = names_of(chance.randint(1, 7))
            chance.shuffle(full)
            needs = any_needs(chance, full, ["x", "y", "y"], 3)
            for name in full + ["x", "y"]:
                found = plain_chain(name, full, needs, ["y"])
                lengths.add(len(found))
                self.assert_chain(found, name, full, needs, ["y"])
        self.assertGreaterEqual(lengths, set(range(6)))

    def test_up_to_forty_names_against_all_lists(self):
        chance = random.Random(5)
        lengths = set()
        for _ in range(60):
            full = names_of(chance.randint(20, 40))
            chance.shuffle(full)
            needs = {name: chance.sample(full, 2) for name in full}
            needs[chance.choice(full)] = ["y", "x"]
            for name in full:
                found = plain_chain(name, full, needs, ["y"])
                lengths.add(len(found))
                self.assert_chain(found, name, full, needs, ["y"])
        self.assertGreaterEqual(lengths, {0, 2, 3, 4, 5, 6})

    def test_there_is_a_chain_just_where_a_name_is_not_of_the_greatest_set(self):
        chance = random.Random(6)
        for _ in range(100):
            full = names_of(chance.randint(1, 40))
            needs = any_needs(chance, full, ["x", "y", "y", "y"], 3)
            group = plain_greatest(full, needs, ["y"])
            for name in full:
                self.assertEqual(chain(name, full, needs, ["y"]) == [], name in group)


if __name__ == "__main__":
    unittest.main()
