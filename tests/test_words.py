"""[1.1]: words that write whole numbers."""

import itertools
import re
import unittest

from clausekeep.words import number_in

NUMBER = re.compile("0|-?[1-9][0-9]{0,8}")


def expected(word):
    return int(word) if NUMBER.fullmatch(word) else None


class Words(unittest.TestCase):
    def assert_no_number(self, words):
        for word in words:
            self.assertIsNone(number_in(word), repr(word))

    def test_nought(self):
        self.assertIs(type(number_in("0")), int)
        self.assertEqual(number_in("0"), 0)

    def test_one_to_nine_figures(self):
        for word, number in (
            ("1", 1), ("9", 9), ("10", 10), ("12", 12), ("305", 305), ("4000", 4000), ("56789", 56789),
            ("100000", 100000), ("7654321", 7654321), ("10000000", 10000000), ("123456789", 123456789),
            ("100000000", 100000000), ("999999999", 999999999),
        ):
            self.assertEqual(number_in(word), number)
            self.assertEqual(number_in("-" + word), -number)
            self.assertIs(type(number_in(word)), int)
            self.assertIs(type(number_in("-" + word)), int)

    def test_every_first_figure_at_every_length(self):
        for first in "123456789":
            for length in range(9):
                word = first + "0" * length
                self.assertEqual(number_in(word), int(first) * 10 ** length)
                self.assertEqual(number_in("-" + word), -int(first) * 10 ** length)

    def test_nought_ahead(self):
        self.assert_no_number(("00", "01", "-01", "007", "0123", "-000", "0999999999", "00000000"))

    def test_opposite_of_nought(self):
        self.assert_no_number(("-0", "--0", "+0", "0-"))

    def test_ten_figures_and_more(self):
        self.assert_no_number(("1000000000", "-1000000000", "1234567890", "-9999999999", "1" * 11, "1" * 5000))

    def test_a_sign_more(self):
        self.assert_no_number(("--1", "+1", "-+1", "+-1", "1-", "1-2", "1+", "1.", "1.0", "1,0", "1_0", "1e3"))

    def test_minus_alone(self):
        self.assert_no_number(("-", "--", "+"))

    def test_letters(self):
        self.assert_no_number(("a", "1a", "a1", "-a", "x12", "0x1", "0b1", "O", "l", "formula", "drop", "None", "True"))

    def test_empty_word(self):
        self.assert_no_number(("",))

    def test_signs_that_no_one_sees(self):
        self.assert_no_number(("\n", "\t", "1\n", "\n1", "-\n1", "1\t", "\t1", "1\r", "0\n", "0\r", "\x0b1", "1\x00"))
        self.assert_no_number(("\xa01", "1\u2003", "\u20281"))

    def test_figures_of_other_scripts(self):
        self.assert_no_number(("\u0661", "-\u0661", "1\u0662", "\uff11", "\xb2", "1\xb2", "\u2460", "\u096a", "\u22121"))

    def test_all_short_words(self):
        for length in range(6):
            for signs in itertools.product("-+019a", repeat=length):
                word = "".join(signs)
                self.assertEqual(number_in(word), expected(word), repr(word))

    def test_every_wrong_sign_at_every_place(self):
        for place in range(10):
            for sign in "+-./:_aO\n\t\u0665":
                word = "123456789"[:place] + sign + "123456789"[place:8]
                self.assertEqual(number_in(word), expected(word), repr(word))
