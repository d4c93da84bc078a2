"""Tests of point 13 of DOC.md: greatest of escrowbook/settling.py."""

import copy
import itertools
import random
import unittest

from escrowbook.settling import greatest
from tests.needs import any_needs, names_of
from tests.plain import plain_greatest


def by_all_sets(full, needs, done):
    """All sets that can be done together, put together."""
    found = set()
    for many in range(len(full) + 1):
        for group in itertools.combinations(full, many):
            if all(need in group or need in done for name in group for need in needs[name]):
                found.update(group)
    return [name for name in full if name in found]


class GreatestTest(unittest.TestCase):
    def assert_greatest(self, found, full, needs, done=()):
        given = (full, needs, list(done))
        held = copy.deepcopy(given)
        self.assertEqual(greatest(*given), found)
        self.assertEqual(given, held)

    def test_nothing_is_full(self):
        self.assert_greatest([], [], {})
        self.assert_greatest([], [], {}, ["a", "b"])

    def test_no_needs(self):
        self.assert_greatest(["a"], ["a"], {"a": []})
        self.assert_greatest(["b", "a"], ["b", "a"], {"a": [], "b": []}, ["c"])

    def test_needs_that_are_done(self):
        self.assert_greatest(["a"], ["a"], {"a": ["x", "y"]}, ["y", "z", "x"])
        self.assert_greatest([], ["a"], {"a": ["x", "y"]}, ["y", "z"])

    def test_needs_that_are_in_none_of_the_lists(self):
        self.assert_greatest([], ["a"], {"a": ["x"]})
        self.assert_greatest(["b"], ["a", "b"], {"a": ["b", "x"], "b": []})
        self.assert_greatest(["a"], ["a", "b"], {"a": [], "b": ["a", "x"]})

    def test_chains(self):
        names = ["a", "b", "c", "d"]
        onward = {"a": ["b"], "b": ["c"], "c": ["d"], "d": []}
        for order in itertools.permutations(names):
            self.assert_greatest(list(order), list(order), onward)
            self.assert_greatest(list(order), list(order), onward | {"d": ["x"]}, ["x"])
            self.assert_greatest([], list(order), onward | {"d": ["x"]})
            self.assert_greatest(
                [name for name in order if name in "cd"], list(order), onward | {"b": ["c", "x"]})

    def test_rings(self):
        names = ["a", "b", "c"]
        ring = {"a": ["b"], "b": ["c"], "c": ["a"]}
        for order in itertools.permutations(names):
            self.assert_greatest(list(order), list(order), ring)
            # Out of it leads a need that is done, and then one that is neither.
            self.assert_greatest(list(order), list(order), ring | {"b": ["x", "c"]}, ["x"])
            for name in names:
                self.assert_greatest([], list(order), ring | {name: ring[name] + ["x"]})
                self.assert_greatest([], list(order), ring | {name: ["x"] + ring[name]})

    def test_two_rings(self):
        needs = {"a": ["b"], "b": ["a"], "c": ["d"], "d": ["c", "x"], "e": ["a"], "f": ["a", "c"]}
        self.assert_greatest(["f", "e", "d", "c", "b", "a"], list("fedcba"), needs, ["x"])
        self.assert_greatest(["e", "b", "a"], list("fedcba"), needs)

    def test_a_need_of_itself(self):
        self.assert_greatest(["a"], ["a"], {"a": ["a"]})
        self.assert_greatest([], ["a"], {"a": ["a", "x"]})
        self.assert_greatest(["a", "b"], ["a", "b"], {"a": ["a", "b"], "b": ["b"]})

    def test_a_need_told_twice(self):
        self.assert_greatest(["a", "b"], ["a", "b"], {"a": ["b", "b"], "b": ["x", "x"]}, ["x"])
        self.assert_greatest([], ["a", "b"], {"a": ["b", "b"], "b": ["x", "x"]})

    def test_needs_of_other_names_are_not_asked(self):
        self.assert_greatest(["a"], ["a"], {"a": ["b"], "b": ["x"], "x": ["y"]}, ["b"])

    def test_the_order_is_that_of_full(self):
        names = names_of(40)
        chance = random.Random(1)
        for _ in range(20):
            chance.shuffle(names)
            needs = {name: chance.sample(names, 2) for name in names}
            self.assert_greatest(list(names), list(names), needs)

    def test_forty_names(self):
        names = names_of(40)
        onward = {name: names[at + 1:at + 2] for at, name in enumerate(names)}
        for order in (names, names[::-1]):
            self.assert_greatest(order, order, onward)
            self.assert_greatest([], order, onward | {names[-1]: ["x"]})
            self.assert_greatest(order, order, onward | {names[-1]: ["x"]}, ["x"])
            self.assert_greatest(order, order, onward | {names[-1]: [names[0]]})
            self.assert_greatest(
                [name for name in order if name > names[20]], order, onward | {names[20]: ["x"]})

    def test_against_all_sets(self):
        chance = random.Random(2)
        for _ in range(400):
            full = names_of(chance.randint(0, 8))
            chance.shuffle(full)
            needs = any_needs(chance, full, ["x", "y", "z"], 2)
            done = chance.sample(["x", "y", "z"], chance.randint(1, 3))
            self.assert_greatest(by_all_sets(full, needs, done), full, needs, done)

    def test_up_to_forty_names_against_the_plain_way(self):
        chance = random.Random(3)
        sizes = set()
        for _ in range(300):
            full = names_of(chance.randint(20, 40))
            chance.shuffle(full)
            needs = any_needs(chance, full, ["x", "y", "y", "y"], chance.randint(1, 3))
            found = plain_greatest(full, needs, ["y"])
            sizes.add(len(found))
            self.assert_greatest(found, full, needs, ["y"])
        self.assertGreater(len(sizes), 10)

    def test_the_answer_is_the_asker_s_own(self):
        full, needs, done = ["a", "b"], {"a": ["b"], "b": []}, []
        first = greatest(full, needs, done)
        self.assertIsNot(first, full)
        first.clear()
        self.assertEqual(greatest(full, needs, done), ["a", "b"])
        self.assertEqual(full, ["a", "b"])


if __name__ == "__main__":
    unittest.main()
