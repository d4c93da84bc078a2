"""Tests of point 2 of DOC.md, names and amounts: escrowbook/words.py."""

import string
import sys
import unittest

from escrowbook import errors
from escrowbook.words import amount_of, name_of
from tests.refusing import NEITHER, Number, RefusedTest, Text

MOST = 10 ** 30

OTHER_SIGNS = (
    "A", "M", "Z", "0", "1", "9", " ", "\n", "\r", "\r\n", "\t", "\v", "\f", "\0", "\x1f", "\x7f",
    "_", "-", ".", ",", "'", '"', "`", "{", "@", "[", "/", "\\", "\u0085", "\u00a0", "\u2028",
    "\u00e4", "\u00df", "\u00aa", "\u0131", "\u017f", "\u03b1", "\u0430", "\uff41", "\u0301",
    "\u200b", "\ufeff", "\ud800", "\U0001d41a", "\U0001f600",
)


class NameTest(RefusedTest):
    def assert_no_name(self, thing):
        self.assert_refused(errors.NoName, name_of, thing)

    def assert_name(self, text):
        self.assertIs(name_of(text), text)

    def test_a_name_is_answered_as_it_was_handed_in(self):
        for text in ("anna", "zoe", "pact", "az", "abcdefghijkl", "mnopqrstuvwx", "yz", "aaa"):
            with self.subTest(text):
                self.assert_name(text)

    def test_a_name_may_be_handed_in_by_keyword(self):
        self.assertEqual(name_of(thing="anna"), "anna")

    def test_each_small_letter_is_a_name_and_no_other_sign_is(self):
        found = []
        for number in range(sys.maxunicode + 1):
            try:
                found.append(name_of(chr(number)))
            except errors.NoName:
                pass
        self.assertEqual("".join(found), string.ascii_lowercase)

    def test_each_length_from_one_to_twelve(self):
        for many in range(1, 13):
            for letter in "amz":
                with self.subTest(many, letter=letter):
                    self.assert_name(letter * many)

    def test_the_empty_text_is_no_name(self):
        self.assert_no_name("")

    def test_longer_texts_are_no_names(self):
        for many in (13, 14, 24, 26, 100, 10 ** 6):
            with self.subTest(many):
                self.assert_no_name("a" * many)

    def test_another_sign_at_any_place_makes_no_name(self):
        for sign in OTHER_SIGNS:
            for many in (0, 1, 2, 3, 10, 11):
                for at in range(many + 1):
                    with self.subTest(sign, many=many, at=at):
                        self.assert_no_name("m" * at + sign + "m" * (many - at))

    def test_a_line_end_behind_a_good_name_makes_no_name(self):
        for text in ("a\n", "anna\n", "abcdefghijkl\n", "abcdefghijk\n", "anna\r\n", "\nanna"):
            with self.subTest(text):
                self.assert_no_name(text)

    def test_several_other_signs_make_no_name(self):
        for text in ("ANNA", "Anna", "an na", " anna ", "12", "a1", "  ", "\n\n", "no-name", "True"):
            with self.subTest(text):
                self.assert_no_name(text)

    def test_what_is_no_text_is_no_name(self):
        for place, thing in enumerate(NEITHER):
            with self.subTest(place):
                self.assert_no_name(thing)

    def test_whole_numbers_are_no_names(self):
        for number in (0, 1, 12, 97, -1, MOST, 10 ** 10000):
            with self.subTest(number.bit_length()):
                self.assert_no_name(number)

    def test_what_only_passes_for_a_text_is_no_name(self):
        self.assert_no_name(Text("NO NAME AT ALL"))

    def test_what_was_handed_in_is_not_changed(self):
        things = ["abc"]
        self.assert_no_name(things)
        self.assertEqual(things, ["abc"])


class AmountTest(RefusedTest):
    def assert_no_amount(self, thing):
        self.assert_refused(errors.NoAmount, amount_of, thing)

    def test_an_amount_is_answered_as_it_was_handed_in(self):
        for number in (1, 2, 3, 10, 12, 13, 255, 1000, 2 ** 31, 2 ** 63, 2 ** 64, 10 ** 18,
                       10 ** 29, MOST // 2, MOST - 1, MOST):
            with self.subTest(number):
                self.assertIs(amount_of(number), number)
                self.assertIs(type(amount_of(number)), int)

    def test_an_amount_may_be_handed_in_by_keyword(self):
        self.assertEqual(amount_of(thing=5), 5)

    def test_less_than_one_is_no_amount(self):
        for number in (0, -1, -2, -1000, -MOST, -MOST - 1, -(10 ** 10000)):
            with self.subTest(number.bit_length()):
                self.assert_no_amount(number)

    def test_more_than_the_greatest_amount_is_no_amount(self):
        for number in (MOST + 1, MOST + 2, 2 * MOST, 10 ** 31, 10 ** 100, 10 ** 10000):
            with self.subTest(number.bit_length()):
                self.assert_no_amount(number)

    def test_true_and_false_are_no_amounts(self):
        self.assert_no_amount(True)
        self.assert_no_amount(False)

    def test_what_is_no_whole_number_is_no_amount(self):
        for place, thing in enumerate(NEITHER):
            with self.subTest(place):
                self.assert_no_amount(thing)

    def test_texts_are_no_amounts(self):
        for text in ("", "1", "12", "1.0", " 1", "one", "a", "\u0661"):
            with self.subTest(text):
                self.assert_no_amount(text)

    def test_what_only_passes_for_a_whole_number_is_no_amount(self):
        self.assert_no_amount(Number(-5))

    def test_what_was_handed_in_is_not_changed(self):
        things = [1]
        self.assert_no_amount(things)
        self.assertEqual(things, [1])


if __name__ == "__main__":
    unittest.main()
