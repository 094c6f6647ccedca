"""The interface under newesttells/words.py; promises [2] (numbers, ratios) and [3] (names)."""

import math
import unittest

from helpers import any_values
from newesttells.words import digits_of, is_name, is_number, is_ratio


class WordsTest(unittest.TestCase):
    def test_names(self):
        for name in ("a", "z", "abc", "abcdef", "zzzzzz"):
            self.assertIs(is_name(name), True, name)
        for name in ("", "abcdefg", "A", "aB", "a1", "a b", " a", "a\n", "a_", "a.", "`", "{"):
            self.assertIs(is_name(name), False, name)

    def test_names_among_any_values(self):
        for value in any_values():
            self.assertIs(is_name(value), value == "a", repr(value))
        self.assertIs(is_name(["a"]), False)
        self.assertIs(is_name(("a",)), False)

    def test_numbers_at_and_beyond_the_bounds(self):
        self.assertEqual([is_number(value, 1, 4) for value in (0, 1, 2, 4, 5, -1)],
                         [False, True, True, True, False, False])
        self.assertEqual([is_number(value, -3, -3) for value in (-4, -3, -2)], [False, True, False])
        self.assertIs(is_number(0, 0, 0), True)
        self.assertIs(is_number(10 ** 30, 0, 10 ** 30), True)
        self.assertIs(is_number(10 ** 30 + 1, 0, 10 ** 30), False)
        self.assertIs(is_number(10 ** 400, 0, 10 ** 400), True)
        self.assertIs(is_number(1, 2, 0), False)

    def test_true_and_false_are_no_numbers(self):
        self.assertIs(is_number(True, 0, 1), False)
        self.assertIs(is_number(False, 0, 1), False)

    def test_numbers_among_any_values(self):
        for value in any_values():
            right = type(value) is int and -9 <= value <= 9
            self.assertIs(is_number(value, -9, 9), right, repr(value))

    def test_words_by_name(self):
        self.assertIs(is_number(value=3, least=1, most=4), True)
        self.assertIs(is_name(value="a"), True)
        self.assertIs(is_ratio(value=(1, 2)), True)

    def test_ratios(self):
        for value in ((0, 1), (1, 1), (-1, 1), (1, 2), (-3, 7), (5, 1), (10 ** 30, 10 ** 30 + 1)):
            self.assertIs(is_ratio(value), True, value)
        for value in ((0, 2), (2, 2), (2, 4), (-2, 4), (1, 0), (0, 0), (1, -1), (-1, -2), (0, -1), (6, 9)):
            self.assertIs(is_ratio(value), False, value)

    def test_ratios_are_tuples_of_two_numbers(self):
        for value in ([1, 2], (1,), (1, 2, 3), (True, 2), (1, True), (False, 1), (None, 1), (1, None), ("1", 2), 1,
                      "12", ((1, 2), (1, 2)), ([1], 2), {1: 2}, {1, 2}, None, True):
            self.assertIs(is_ratio(value), False, value)
        for value in any_values():
            self.assertIs(is_ratio(value), value == (1, 2), repr(value))

    def test_ratios_against_all_small_pairs(self):
        for top in range(-12, 13):
            for bottom in range(-12, 13):
                right = bottom >= 1 and math.gcd(top, bottom) == 1
                self.assertIs(is_ratio((top, bottom)), right)

    def test_digits_of_any_size(self):
        for number in (0, 7, 10 ** 63, 10 ** 64 - 1, 10 ** 64, 10 ** 64 + 5, 12345 * 10 ** 200 + 678):
            self.assertEqual(digits_of(number), str(number))
        self.assertEqual(digits_of(3 * 10 ** 9000 + 42), "3" + "0" * 8998 + "42")


if __name__ == "__main__":
    unittest.main()
