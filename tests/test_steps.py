"""[1.3]: the lines of steps."""

import itertools
import re
import unittest

from clausekeep.errors import ClauseError, NoStep
from clausekeep.steps import shown, step_in

# Steps and their lines, sign by sign.
PAIRS = (
    (("add", 1, (), ()), "1 0 0"),
    (("add", 9, (1,), ()), "9 1 0 0"),
    (("add", 5, (), (1,)), "5 0 1 0"),
    (("add", 5, (), (4, 2, 3)), "5 0 4 2 3 0"),
    (("add", 12, (-2, 1), (7, 10)), "12 -2 1 0 7 10 0"),
    (("add", 7, (1, -2), (3, -4, 5, -6)), "7 1 -2 0 3 -4 5 -6 0"),
    (("add", 7, (1, -2), (-3, -1)), "7 1 -2 0 -3 -1 0"),
    (("add", 61, (2, 2, -2), (5, 5, -5)), "61 2 2 -2 0 5 5 -5 0"),
    (("add", 3, (13, -20), (1,)), "3 13 -20 0 1 0"),
    (("add", 999999999, (999999999, -999999999), (-999999999, 999999999)),
     "999999999 999999999 -999999999 0 -999999999 999999999 0"),
    (("add", 100000000, (-10, 100), (1000, -10000)), "100000000 -10 100 0 1000 -10000 0"),
    (("drop", ()), "drop 0"),
    (("drop", (1,)), "drop 1 0"),
    (("drop", (3, 1, 2)), "drop 3 1 2 0"),
    (("drop", (4, 4)), "drop 4 4 0"),
    (("drop", (999999999, 10, 100000000)), "drop 999999999 10 100000000 0"),
)

ABOVE = "[1-9][0-9]{0,8}"
OTHER = "-?[1-9][0-9]{0,8}"
SHAPE = re.compile(f"{ABOVE}( {OTHER})* 0( {OTHER})* 0|drop( {ABOVE})* 0")


class Shown(unittest.TestCase):
    def test_sign_by_sign(self):
        for step, line in PAIRS:
            self.assertEqual(shown(step), line)

    def test_somewhat_beyond_nine_figures_is_not_refused(self):
        self.assertEqual(shown(("add", 1000000000, (1,), (-1000000000,))), "1000000000 1 0 -1000000000 0")
        self.assertEqual(shown(("drop", (1000000000,))), "drop 1000000000 0")


class Read(unittest.TestCase):
    def test_sign_by_sign(self):
        for step, line in PAIRS:
            self.assertEqual(step_in(line), step)

    def test_read_back(self):
        numbers = ((), (1,), (-1,), (2, 1), (-12, 3, -12), (999999999,), (-999999999, 10))
        for number, clause, hints in itertools.product((1, 10, 999999999), numbers, numbers):
            step = ("add", number, clause, hints)
            self.assertEqual(step_in(shown(step)), step)
        for numbers in ((), (1,), (2, 1), (12, 3, 12), tuple(range(1, 200))):
            self.assertEqual(step_in(shown(("drop", numbers))), ("drop", numbers))

    def test_kinds(self):
        step = step_in("7 1 -2 0 3 -4 0")
        self.assertEqual([type(part) for part in step], [str, int, tuple, tuple])
        self.assertEqual([type(number) for number in step[2] + step[3]], [int] * 4)
        for line in ("7 1 -2 0 3 -4 0", "7 0 0", "drop 2 3 0", "drop 0"):
            step = step_in(line)
            self.assertIs(type(step), tuple)
            self.assertTrue(all(type(part) in (str, int, tuple) for part in step), line)
        self.assertEqual([type(part) for part in step_in("drop 2 3 0")], [str, tuple])


class Refused(unittest.TestCase):
    def assert_refused(self, lines):
        for line in lines:
            with self.assertRaises(NoStep, msg=repr(line)):
                step_in(line)

    def check(self, line):
        if SHAPE.fullmatch(line):
            self.assertEqual(shown(step_in(line)), line)
        else:
            self.assert_refused((line,))

    def test_empty_line(self):
        self.assert_refused(("", " ", "  ", "\n", "\t"))

    def test_number_of_nought_or_below(self):
        self.assert_refused(("0 0 0", "0 1 0 2 0", "-1 0 0", "-1 1 0 2 0", "-999999999 0 0", "-0 0 0"))

    def test_a_missing_nought(self):
        self.assert_refused(("1", "0", "0 0", "1 0", "1 2 0", "1 2", "1 2 3", "1 0 2", "1 2 0 3", "1 2 0 -3", "5 -1 0"))

    def test_a_nought_too_many(self):
        self.assert_refused(("1 0 0 0", "1 2 0 3 0 0", "1 2 0 0 3 0", "1 0 2 0 0", "1 0 2 0 3 0", "1 0 0 0 0"))

    def test_words_behind_the_last_nought(self):
        self.assert_refused(("1 0 0 1", "1 2 0 3 0 4", "1 0 0 x", "1 0 0 drop", "drop 0 1", "drop 1 0 2", "drop 0 x"))

    def test_words_that_write_no_number(self):
        wrong = ("x", "-", "+1", "--1", "01", "-01", "-0", "00", "1.", "1_0", "1,2", "a1", "0x1", "1e1", "\u0661",
                 "\xb2", "1000000000", "-1000000000", "add", "drop", "Drop", "None")
        for word in wrong:
            self.assert_refused((f"{word} 0 0", f"5 {word} 0 0", f"5 1 {word} 0 1 0"))
            self.assert_refused((f"5 0 {word} 0", f"5 0 1 {word} 0"))
            self.assert_refused((f"drop {word} 0", f"drop 1 {word} 0", f"drop {word} 1 0", f"drop 1 {word}", word))
            self.assert_refused((f"5 0 0 {word}", f"5 1 {word} 2 0", f"5 1 0 2 {word}", f"{word} 1 0 2 0"))

    def test_a_blank_too_many(self):
        for step, line in PAIRS:
            self.assert_refused((" " + line, line + " ", "  " + line, line + "  ", line.replace(" ", "  ", 1)))
            self.assert_refused((line[:-2] + "  0",))

    def test_other_signs_as_blanks_and_ends(self):
        for step, line in PAIRS:
            for sign in ("\t", "\n", "\r", "\x0b", "\xa0", "\u2003", ","):
                self.assert_refused((line.replace(" ", sign, 1), line[:-2] + sign + "0", line + sign, sign + line))

    def test_drop_with_nought_or_below_among_its_numbers(self):
        self.assert_refused(("drop 0 0", "drop 1 0 0", "drop 0 1 0", "drop -1 0", "drop 1 -2 0", "drop -2 1 0",
                             "drop 2 0 1 0", "drop -999999999 0", "drop -0 0"))

    def test_drop_without_its_nought(self):
        self.assert_refused(("drop", "drop ", "drop 1", "drop 1 2", "drop 1 -2", "drop -1", "drop 10", "drop 00"))

    def test_drop_at_another_place(self):
        self.assert_refused(("1 drop 0", "1 drop 0 0", "1 0 drop 0", "1 0 0 drop", "drop drop 0", "drop 1 drop 0",
                             "0 drop", "1 0 drop", "drop 0 drop 0"))

    def test_drop_written_otherwise(self):
        self.assert_refused(("Drop 1 0", "DROP 1 0", "drops 1 0", "dro 1 0", "drop1 0", "-drop 1 0", "d 1 0",
                             "add 1 0 0", "add 5 1 0 2 0", "step 5 1 0 2 0", "drop\n 1 0"))

    def test_taken_as_the_classes_above(self):
        for kind in (NoStep, ClauseError, ValueError):
            for line in ("", "1 0", "drop -1 0", "0 0 0", "x"):
                with self.assertRaises(kind):
                    step_in(line)

    def test_all_rows_of_some_words(self):
        for length in range(1, 6):
            for words in itertools.product(("0", "1", "-1", "drop", "", "01"), repeat=length):
                self.check(" ".join(words))

    def test_every_change_of_one_sign(self):
        for step, line in PAIRS:
            for place in range(len(line) + 1):
                for sign in ("", *"019- \n\tdx"):
                    for behind in (place, place + 1):
                        self.check(line[:place] + sign + line[behind:])

    def test_a_refusal_leaves_nothing_behind(self):
        self.assert_refused(("5 1 0",))
        self.assertEqual(step_in("5 1 0 0"), ("add", 5, (1,), ()))
