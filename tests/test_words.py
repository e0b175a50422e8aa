"""Tests of livenames.words."""

import unittest

from livenames.words import first_names, is_name, is_number, is_number_below, name_with
from tests.values import NAMES, NO_NAMES, NO_TEXTS


class TestIsName(unittest.TestCase):

    def test_names(self):
        for value in NAMES:
            self.assertIs(is_name(value), True, value)

    def test_each_single_sign(self):
        for code in range(ord(" "), ord("~") + 1):
            sign = chr(code)
            self.assertIs(is_name(sign), "a" <= sign <= "z", sign)
            self.assertIs(is_name("a" + sign), "a" <= sign <= "z", sign)

    def test_one_to_eight_letters(self):
        for many in range(12):
            self.assertIs(is_name("q" * many), 1 <= many <= 8, many)

    def test_no_names(self):
        for value in NO_NAMES + NO_TEXTS:
            self.assertIs(is_name(value), False, value)

    def test_letters_beyond_z(self):
        for value in ["\u00e4", "a\u00df", "\u03b1"]:
            self.assertIs(is_name(value), False, value)

    def test_argument_by_name(self):
        self.assertIs(is_name(value="x"), True)
        self.assertIs(is_name(value=None), False)


class TestIsNumber(unittest.TestCase):

    def test_numbers(self):
        for value in [0, 1, -1, 7, 10 ** 59]:
            self.assertIs(is_number(value), True, value)

    def test_no_numbers(self):
        for value in [True, False, None, 1.0, "1", "", [1], (1,), {1: 1}, object()]:
            self.assertIs(is_number(value), False, value)
            self.assertIs(is_number_below(value, 5), False, value)

    def test_numbers_below(self):
        for most in range(4):
            self.assertEqual([value for value in range(-5, 8) if is_number_below(value, most)], list(range(most)))


class TestFirstNames(unittest.TestCase):

    def test_all_names_in_order(self):
        names = [name_with(number) for number in range(26 + 26 ** 2 + 26 ** 3 + 2)]
        self.assertEqual(names, sorted(set(names), key=lambda name: (len(name), name)))
        self.assertEqual((names[0], names[25], names[26], names[701], names[702]), ("a", "z", "aa", "zz", "aaa"))
        self.assertEqual(names[-2:], ["aaaa", "aaab"])

    def test_first_names(self):
        self.assertEqual(first_names(3, []), ["a", "b", "c"])
        self.assertEqual(first_names(3, ["b", "q", "b", "aa"]), ["a", "c", "d"])
        self.assertEqual(first_names(3, ["a", "b", "c"]), ["d", "e", "f"])
        self.assertEqual(first_names(2, list("abcdefghijklmnopqrstuvwxy")), ["z", "aa"])
        self.assertEqual(first_names(0, ["a"]), [])


if __name__ == "__main__":
    unittest.main()
