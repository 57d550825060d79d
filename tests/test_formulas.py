"""[1.2]: the texts of formulas, with what [0.3] says of a formula."""

import re
import unittest

from clausekeep.errors import ClauseError, NoFormula
from clausekeep.formulas import read, written

SIXTY = [(1 + place % 12, -(1 + place % 7)) for place in range(60)]

# Formulas and their texts, sign by sign.
PAIRS = (
    (0, [], "formula 0 0\n"),
    (12, [], "formula 12 0\n"),
    (0, [()], "formula 0 1\n0\n"),
    (1, [(1,)], "formula 1 1\n1 0\n"),
    (1, [(-1,)], "formula 1 1\n-1 0\n"),
    (3, [(1, -2), (), (3,)], "formula 3 3\n1 -2 0\n0\n3 0\n"),
    (2, [(2, 1, 2, 2)], "formula 2 1\n2 1 2 2 0\n"),
    (2, [(1, -1), (-2, 1, 2)], "formula 2 2\n1 -1 0\n-2 1 2 0\n"),
    (12, [(12, -12, 10, -11)], "formula 12 1\n12 -12 10 -11 0\n"),
    (2, [(1,), (1,), (1,)], "formula 2 3\n1 0\n1 0\n1 0\n"),
    (0, [()] * 60, "formula 0 60\n" + "0\n" * 60),
    (12, [(-12,)] * 60, "formula 12 60\n" + "-12 0\n" * 60),
    (12, SIXTY, "formula 12 60\n" + "".join(f"{first} {second} 0\n" for first, second in SIXTY)),
)


def first_wrong(text):
    """The first wrong line of a text, or None, found by another way than the program's."""
    lines = re.findall("[^\n]*\n|[^\n]+", text)
    head = re.fullmatch("formula (0|[1-9]|1[0-2]) (0|[1-9]|[1-5][0-9]|60)\n", lines[0]) if lines else None
    if head is None:
        return 1
    variables = int(head[1])
    names = "|".join(str(variable) for variable in range(1, variables + 1))
    shape = f"(-?({names}) )*0\n" if variables else "0\n"
    for number in range(2, int(head[2]) + 2):
        if len(lines) < number or re.fullmatch(shape, lines[number - 1]) is None:
            return number
    return int(head[2]) + 2 if len(lines) > int(head[2]) + 1 else None


class Written(unittest.TestCase):
    def test_sign_by_sign(self):
        for variables, clauses, text in PAIRS:
            self.assertEqual(written(variables, clauses), text)

    def test_what_is_handed_in_is_as_it_was(self):
        clauses = [(2, 1, 2), (), (1, -1)]
        written(2, clauses)
        self.assertEqual(clauses, [(2, 1, 2), (), (1, -1)])

    def test_nothing_is_kept(self):
        clauses = [(1,)]
        self.assertEqual(written(1, clauses), "formula 1 1\n1 0\n")
        clauses.append((-1,))
        self.assertEqual(written(1, clauses), "formula 1 2\n1 0\n-1 0\n")
        self.assertEqual(written(2, clauses), "formula 2 2\n1 0\n-1 0\n")

    def test_somewhat_beyond_the_bounds_is_not_refused(self):
        self.assertEqual(written(13, [(13, -13)]), "formula 13 1\n13 -13 0\n")
        self.assertEqual(written(1, [(1,)] * 61), "formula 1 61\n" + "1 0\n" * 61)


class Read(unittest.TestCase):
    def assert_reads(self, text, variables, clauses):
        # assertEqual would take minutes to show where two large formulas differ.
        self.assertTrue(read(text) == (variables, clauses), repr(text))

    def test_sign_by_sign(self):
        for variables, clauses, text in PAIRS:
            self.assert_reads(text, variables, clauses)

    def test_read_back(self):
        for variables, clauses, text in PAIRS:
            self.assert_reads(written(variables, clauses), variables, clauses)

    def test_every_number_of_variables_and_of_clauses(self):
        for variables in range(13):
            literals = tuple(range(-variables, 0)) + tuple(range(variables, 0, -1))
            for count in range(61):
                clauses = [literals[place % 3:] for place in range(count)]
                self.assert_reads(written(variables, clauses), variables, clauses)

    def test_kinds(self):
        answer = read("formula 2 2\n1 -2 1 0\n0\n")
        self.assertIs(type(answer), tuple)
        self.assertEqual(len(answer), 2)
        self.assertIs(type(answer[0]), int)
        self.assertIs(type(answer[1]), list)
        self.assertEqual([type(clause) for clause in answer[1]], [tuple, tuple])
        self.assertEqual([type(literal) for literal in answer[1][0]], [int, int, int])

    def test_nothing_is_kept(self):
        text = "formula 2 1\n1 -2 0\n"
        clauses = read(text)[1]
        clauses.append((2,))
        clauses[0] = ()
        self.assertEqual(read(text), (2, [(1, -2)]))
        self.assertEqual(read("formula 2 0\n"), (2, []))

    def test_a_long_clause(self):
        clause = (1, -2, 2) * 500
        self.assert_reads(written(2, [clause]), 2, [clause])


class Refused(unittest.TestCase):
    def assert_refused(self, text, line):
        with self.assertRaises(NoFormula, msg=repr(text)) as caught:
            read(text)
        self.assertEqual(caught.exception.line, line, repr(text))
        self.assertIs(type(caught.exception.line), int)

    def assert_first_line_refused(self, heads):
        for head in heads:
            self.assert_refused(head + "\n", 1)
            self.assert_refused(head + "\n1 0\n", 1)

    def assert_clause_refused(self, lines):
        for line in lines:
            self.assert_refused(f"formula 3 1\n{line}\n", 2)
            self.assert_refused(f"formula 3 3\n1 0\n{line}\n3 0\n", 3)
            self.assert_refused(f"formula 3 3\n1 0\n-2 0\n{line}\n", 4)

    def test_empty_text(self):
        self.assert_refused("", 1)

    def test_first_line_empty_or_blank(self):
        self.assert_first_line_refused(("", " ", "\t"))

    def test_first_line_with_other_words(self):
        self.assert_first_line_refused((
            "formula", "formula 1", "formula 1 1 1", "formula 1 1 0", "1 1", "1 1 formula", "Formula 1 1",
            "FORMULA 1 1", "formulas 1 1", "formul 1 1", "p cnf 1 1", "book 1 1", "1 0", "0", "formula one 1",
            "formula 1 one", "formula - 1", "formula 1 -", "formula x 1", "formula 1 x", "formula +1 1", "formula 1 +1",
            "formula 01 1", "formula 1 01", "formula 1 00", "formula -0 1", "formula 1 -0", "formula 1.0 1",
            "formula \u0661 1", "formula 1 \u0661", "formula 1_0 1", "formula None None",
        ))

    def test_first_line_with_numbers_beyond_the_bounds(self):
        self.assert_first_line_refused((
            "formula 13 1", "formula 1 61", "formula 13 61", "formula 100 1", "formula 1 100", "formula 999999999 1",
            "formula 1 999999999", "formula -1 1", "formula 1 -1", "formula -12 1", "formula 1 -60",
            "formula 1000000000 1", "formula 1 1000000000",
        ))
        self.assert_refused("formula 12 61\n" + "1 0\n" * 61, 1)
        self.assert_refused("formula 13 1\n13 0\n", 1)

    def test_the_bounds_themselves_are_taken(self):
        self.assertTrue(read("formula 12 60\n" + "12 0\n" * 60) == (12, [(12,)] * 60))

    def test_first_line_with_wrong_blanks(self):
        self.assert_first_line_refused((
            " formula 1 1", "formula 1 1 ", "formula  1 1", "formula 1  1", "formula\t1 1", "formula 1\t1",
            "formula 1 1\t", "formula 1 1\r", "formula\xa01 1", "formula 11",
        ))

    def test_variable_too_great(self):
        self.assert_clause_refused(("4 0", "-4 0", "1 4 0", "4 1 0", "1 -4 2 0", "12 0", "13 0", "-999999999 0", "10 0"))
        self.assert_refused("formula 0 1\n1 0\n", 2)
        self.assert_refused("formula 0 1\n-1 0\n", 2)
        self.assert_refused("formula 12 2\n12 -12 0\n13 0\n", 3)
        self.assert_refused("formula 12 2\n12 -12 0\n-13 0\n", 3)

    def test_nought_within_a_clause(self):
        self.assert_clause_refused(("0 0", "1 0 0", "0 1 0", "1 0 2 0", "0 0 0"))

    def test_no_nought_at_the_end(self):
        self.assert_clause_refused(("1", "-1", "1 2", "0 1", "1 0 2", "3 -3", "10", "1 -0", "-0", "1 00", "1 x", "1 0."))

    def test_words_that_write_no_number(self):
        self.assert_clause_refused((
            "x 0", "1 x 0", "- 0", "1 - 2 0", "+1 0", "--1 0", "01 0", "-01 0", "-0 0", "1 -0 0", "1. 0", "1,2 0", "1_ 0",
            "a1 0", "0x1 0", "1000000000 0", "-1000000000 0", "0000000001 0", "\u0661 0", "1 \xb2 0", "drop 1 0", "c 1 0",
            "formula 1 0", "1 \u0660",
        ))

    def test_a_blank_more(self):
        self.assert_clause_refused((" 1 0", "1  0", "1 0 ", "1  2 0", "1 2  0", " 0", "0 ", "  0", " ", "1 2 0  "))

    def test_other_signs_as_blanks(self):
        self.assert_clause_refused(("1\t0", "1 0\t", "\t1 0", "1 0\r", "0\r", "1\r0", "1\xa00", "1\u20030", "1 0\x0c"))

    def test_an_empty_line(self):
        self.assert_clause_refused(("",))
        self.assert_refused("\nformula 0 0\n", 1)
        self.assert_refused("\n", 1)

    def test_only_a_line_feed_ends_a_line(self):
        for end in ("\r", "\x0b", "\x0c", "\x1c", "\x85", "\u2028", "\r\n"):
            self.assert_refused(f"formula 1 1{end}1 0{end}", 1)
            self.assert_refused(f"formula 1 1\n1 0{end}", 2)
            self.assert_refused(f"formula 1 2\n1 0{end}1 0\n", 2)

    def test_a_line_that_lacks(self):
        self.assert_refused("formula 1 1\n", 2)
        self.assert_refused("formula 1 60\n", 2)
        self.assert_refused("formula 3 3\n1 0\n", 3)
        self.assert_refused("formula 3 3\n1 0\n2 0\n", 4)
        self.assert_refused("formula 12 60\n" + "1 0\n" * 59, 61)

    def test_a_line_behind_the_last_one(self):
        for tail in ("1 0\n", "0\n", "\n", "\n\n\n", "x\n", "formula 0 0\n", "1 0\n1 0\n1 0", " \n", "1 0\n\n"):
            self.assert_refused("formula 1 0\n" + tail, 2)
            self.assert_refused("formula 1 1\n1 0\n" + tail, 3)
            self.assert_refused("formula 1 60\n" + "1 0\n" * 60 + tail, 62)

    def test_any_sign_behind_the_last_one(self):
        for tail in ("0", "1 0", " ", "x", "\t", "\r", "\x00", "\ufeff", "formula 0 0"):
            self.assert_refused("formula 1 0\n" + tail, 2)
            self.assert_refused("formula 1 1\n1 0\n" + tail, 3)
            self.assert_refused("formula 1 60\n" + "1 0\n" * 60 + tail, 62)

    def test_no_line_end_at_the_end(self):
        self.assert_refused("formula 0 0", 1)
        self.assert_refused("formula 1 1", 1)
        self.assert_refused("formula 1 1\n1 0", 2)
        self.assert_refused("formula 1 2\n1 0\n0", 3)
        self.assert_refused("formula 1 2\n1 0", 2)
        self.assert_refused("formula 1 60\n" + "1 0\n" * 59 + "1 0", 61)

    def test_the_first_of_several_wrong_lines_is_told(self):
        self.assert_refused("formula 13 2\n14 0\n\n", 1)
        self.assert_refused("formula 1 3\n1 0\n2 0\nx\n1 0\n1 0\n", 3)
        self.assert_refused("formula 1 3\n2 0\n", 2)
        self.assert_refused("formula 1 2\n1 0\n2 0\nx", 3)
        self.assert_refused("formula 1 1\n1\n1 0\n", 2)

    def test_every_change_of_one_sign(self):
        for text in ("formula 2 3\n1 -2 0\n0\n2 2 0\n", "formula 0 0\n", "formula 12 1\n-12 11 0\n"):
            for place in range(len(text) + 1):
                for sign in ("", *"0126- \n\t\rx"):
                    for behind in (place, place + 1):
                        self.check(text[:place] + sign + text[behind:])

    def test_every_piece_of_a_text(self):
        text = "formula 2 3\n1 -2 0\n0\n2 2 0\n0\n"
        for start in range(len(text) + 1):
            for end in range(start, len(text) + 1):
                self.check(text[start:end])
                self.check(text[:start] + text[end:])

    def check(self, text):
        line = first_wrong(text)
        if line is None:
            self.assertEqual(written(*read(text)), text)
        else:
            self.assert_refused(text, line)

    def test_taken_as_the_classes_above(self):
        for kind in (NoFormula, ClauseError, ValueError):
            with self.assertRaises(kind):
                read("formula 1 1\n2 0\n")

    def test_a_refusal_leaves_nothing_behind(self):
        self.assert_refused("formula 1 2\n1 0\n2 0\n", 3)
        self.assertEqual(read("formula 1 1\n1 0\n"), (1, [(1,)]))
        self.assert_refused("formula 1 1\n", 2)
