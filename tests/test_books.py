"""[6.1]: books; [0.2]: what a book tells as a model or a refutation is one."""

import itertools
import random
import re
import unittest

from clausekeep.books import played
from clausekeep.checking import checked
from clausekeep.errors import ClauseError, NoRefutation, NotRight, TooMany
from clausekeep.steps import step_in
from clausekeep.trimming import core, trimmed
from tests.helpers import WITH, WITHOUT, drawn, has_model, models_of

NOT_UNDERSTOOD = "not understood"
FOUR = ["clause 1 2 0", "clause -1 2 0", "clause 1 -2 0", "clause -1 -2 0"]
STEPS = ["step 5 2 0 1 2 0", "step 6 0 5 3 4 0"]
EMPTY_AT_ONCE = ["clause 0", "step 2 0 1 0"]

# Lines that no book understands, whatever it holds.
STRANGE = (
    "", " ", "  ", "0", "1", "1 2 0", "model", "clauses 1 0", "Clause 1 0", "CLAUSE 1 0", "steps", "hold 0", "counts",
    "Count", "COUNT", "solved", "cores", "trimmed", "clause", "clause ", "clause  ", " clause 1 0", "clause  1 0",
    "clause 1 0 ", "clause 1  0", "step", "step ", " step drop 0", "step  drop 0", "step drop 0 ", "holds", "holds ",
    " holds 1 0", "count ", " count", "count  ", "count 0", "count 1", "count count", "solve ", " solve", "solve 0",
    "solve 1", "solve model", "core ", " core", "core 0", "core 1 0", "core core", "trim ", " trim", "trim 0",
    "trim trim", "count/solve", "clause1 0", "step1 0 0", "holds0", "drop 1 0", "drop 0", "refuted", "taken", "yes",
    "~", "!", "clause ~ 0", "step ~", "holds ~ 0", "clause/1/0", "clause-1 0", "count,", "solve.", "played", "clause /",
)

# Words that are no clause's of two variables, and no literals of them either.
NO_CLAUSE = (
    "", " ", "1", "1 2", "0 0", "1 0 0", "0 1", "0 1 0", "1 0 2 0", "1 0 2", " 1 0", "1  0", "1 0 ", "1 2  0", " 0",
    "0 ", "3 0", "-3 0", "1 3 0", "1 -3 0", "12 0", "999999999 0", "1000000000 0", "01 0", "+1 0", "-0 0", "1 -0", "00",
    "--1 0", "- 1 0", "1- 0", "1.0 0", "x 0", "1 x 0", "1 2 O", "1,2 0", "1 / 0", "-01 0", "1 00", "1_0 0", "1 2 0 /",
    "-", "- 0",
)

# Words that write no step.
NO_STEP = (
    "", " ", "0", "5", "5 0", "5 1 0", "5 1 2", "5 1 0 1", "5 1 0 1 2", "5 1 0 1 0 0", "5 1 0 1 0 2 0", "5 0 0 0",
    "0 1 0 1 0", "-5 1 0 1 0", "5 1 0 1 0 ", " 5 1 0 1 0", "5  1 0 1 0", "5 1  0 1 0", "5 1 0  1 0", "5 1 0 1  0",
    "05 1 0 1 0", "5 01 0 1 0", "5 1 0 01 0", "x 1 0 1 0", "5 x 0 1 0", "5 1 0 x 0", "1000000000 1 0 1 0",
    "5 1000000000 0 1 0", "5 1 0 1000000000 0", "add 5 1 0 1 0", "drop", "drop ", "drop 1", "drop 0 0", "drop 1 0 0",
    "drop 0 1 0", "drop -1 0", "drop 1 -2 0", "drop x 0", "drop  1 0", "drop 1  0", "drop 1 0 ", " drop 1 0",
    "drop 01 0", "Drop 1 0", "drop 1000000000 0", "step 5 1 0 1 0", "5 1 0 1 0 / 6 0 5 0", "+5 1 0 1 0",
)


def clauses_in(lines):
    """The clauses that lines write."""
    return [tuple(int(word) for word in line.split()[1:-1]) for line in lines]


def clause_lines(clauses):
    return [" ".join(["clause", *map(str, clause), "0"]) for clause in clauses]


class Other:
    """A book, by another way of telling: all is looked through anew for each line."""

    LITERAL = r"-?[1-9][0-9]{0,8}"
    PLAIN = r"[1-9][0-9]{0,8}"
    STEP = rf"(?:{PLAIN}(?: {LITERAL})* 0(?: {LITERAL})* 0|drop(?: {PLAIN})* 0)"

    def __init__(self, variables):
        self.variables = variables
        self.clauses = []
        self.steps = []

    def answer(self, line):
        if re.fullmatch(rf"(?:clause|holds)(?: {self.LITERAL})* 0", line):
            literals = tuple(int(word) for word in line.split(" ")[1:-1])
            if any(abs(literal) > self.variables for literal in literals):
                return NOT_UNDERSTOOD
            return self.clause(literals) if line.startswith("clause") else self.holds(literals)
        if re.fullmatch(f"step {self.STEP}", line):
            return self.step(step_in(line[len("step "):]))
        if line == "count":
            return str(len(models_of(self.variables, self.clauses)))
        if line in ("core", "trim"):
            return self.cut(line)
        return None if line == "solve" else NOT_UNDERSTOOD

    def clause(self, literals):
        if self.steps:
            return NOT_UNDERSTOOD
        if len(self.clauses) == 60:
            return "too many"
        self.clauses = self.clauses + [literals]
        return str(len(self.clauses))

    def holds(self, literals):
        told = {abs(literal) for literal in literals}
        if len(told) != self.variables or len(literals) != self.variables:
            return NOT_UNDERSTOOD
        return "yes" if all(set(clause) & set(literals) for clause in self.clauses) else "no"

    def step(self, step):
        try:
            done = checked(self.variables, self.clauses, self.steps + [step])
        except NotRight:
            return "not right"
        self.steps = self.steps + [step]
        return "refuted" if done else "taken"

    def cut(self, line):
        try:
            if line == "core":
                return " ".join(["core", *map(str, core(self.variables, self.clauses, self.steps)), "0"])
            lines = []
            for step in trimmed(self.variables, self.clauses, self.steps):
                head = ["drop"] if step[0] == "drop" else [step[1], *step[2], 0]
                lines.append(" ".join(map(str, [*head, *step[-1], 0])))
            return " / ".join(lines)
        except NoRefutation:
            return "no refutation"


class Base(unittest.TestCase):
    def assert_played(self, variables, *rows):
        """Each row is a line and its answer."""
        answers = played(variables, [line for line, answer in rows])
        self.assertIs(type(answers), list)
        self.assertTrue(all(type(answer) is str for answer in answers))
        for (line, wanted), answer in zip(rows, answers, strict=True):
            self.assertEqual(answer, wanted, (line, rows))

    def assert_last(self, variables, lines, wanted):
        """The answer to the last one of lines."""
        self.assertEqual(played(variables, lines)[-1], wanted, lines)

    def assert_changes_nothing(self, variables, ahead, line, answer, behind):
        """A line is refused, and what comes behind it is answered as if it had not come."""
        without = played(variables, [*ahead, *behind])
        wanted = without[:len(ahead)] + [answer] + without[len(ahead):]
        self.assertEqual(played(variables, [*ahead, line, *behind]), wanted, line)
        twice = without[:len(ahead)] + [answer, answer] + without[len(ahead):]
        self.assertEqual(played(variables, [*ahead, line, line, *behind]), twice, line)


class Variables(Base):
    def test_no_lines(self):
        for variables in range(13):
            self.assertEqual(played(variables, []), [])

    def test_too_many(self):
        for variables in (-1, -2, -12, -10 ** 12, 13, 14, 60, 10 ** 12):
            for lines in ([], ["count"], ["clause 1 0", "what"]):
                for kind in (TooMany, ClauseError, ValueError):
                    with self.assertRaises(kind) as caught:
                        played(variables, lines)
                    self.assertIs(type(caught.exception), TooMany)

    def test_all_that_are_not_too_many(self):
        for variables in range(13):
            self.assert_played(variables, ("count", str(2 ** variables)), ("clause 0", "1"), ("count", "0"))

    def test_no_variables(self):
        self.assert_played(0, ("holds 0", "yes"), ("count", "1"), ("solve", "model 0"), ("clause 1 0", NOT_UNDERSTOOD),
                           ("clause -1 0", NOT_UNDERSTOOD), ("step 1 1 -1 0 0", "not right"),
                           ("holds 1 0", NOT_UNDERSTOOD), ("clause 0", "1"), ("holds 0", "no"), ("count", "0"),
                           ("core", "no refutation"), ("step 2 0 1 0", "refuted"), ("core", "core 1 0"),
                           ("trim", "2 0 1 0"), ("holds 0", "no"))

    def test_a_book_is_new_each_time(self):
        self.assert_played(2, ("clause 1 0", "1"), ("clause 2 0", "2"))
        self.assert_played(2, ("count", "4"), ("clause 1 0", "1"))
        self.assert_played(2, *zip(FOUR + STEPS, ["1", "2", "3", "4", "taken", "refuted"]))
        self.assert_played(2, ("core", "no refutation"), ("clause 1 0", "1"), ("step 5 2 0 1 2 0", "not right"))


class Clauses(Base):
    def test_how_many_there_are(self):
        self.assert_played(3, ("clause 1 2 0", "1"), ("clause -3 0", "2"), ("clause 1 2 0", "3"), ("clause 0", "4"),
                           ("clause 3 -3 3 0", "5"), ("clause 1 1 1 1 1 1 1 1 1 1 1 1 1 0", "6"))

    def test_every_variable(self):
        for variables in range(1, 13):
            for literal in (1, variables, -1, -variables):
                self.assert_last(variables, [f"clause {literal} 0"], "1")
            for literal in (variables + 1, -variables - 1, 999999999):
                self.assert_last(variables, [f"clause {literal} 0"], NOT_UNDERSTOOD)

    def test_no_clauses_words(self):
        for words in NO_CLAUSE:
            self.assert_last(2, [f"clause {words}"], NOT_UNDERSTOOD)
            self.assert_changes_nothing(2, FOUR[:1], f"clause {words}", NOT_UNDERSTOOD, ["count", *FOUR[1:], "count"])

    def test_behind_a_step_taken(self):
        for step in ("step drop 0", "step drop 1 0", "step drop 99 0", "step 3 1 -1 0 0", "step 7 1 2 0 1 0"):
            for line in ("clause 1 0", "clause 0", "clause 2 -2 0", "clause 3 0", "clause"):
                self.assert_played(2, ("clause 1 2 0", "1"), ("clause -1 0", "2"), (step, "taken"),
                                   (line, NOT_UNDERSTOOD), ("count", "1"))

    def test_behind_a_step_taken_where_there_are_no_clauses(self):
        self.assert_played(1, ("step drop 0", "taken"), ("clause 1 0", NOT_UNDERSTOOD), ("count", "2"))
        self.assert_played(1, ("step 1 1 0 0", "taken"), ("clause 1 0", NOT_UNDERSTOOD), ("count", "2"))

    def test_behind_the_refutation(self):
        self.assert_last(2, FOUR + STEPS + ["clause 1 0"], NOT_UNDERSTOOD)
        self.assert_last(1, EMPTY_AT_ONCE + ["clause 0"], NOT_UNDERSTOOD)

    def test_behind_a_step_that_was_refused(self):
        self.assert_played(2, ("clause 1 2 0", "1"), ("step 2 -1 0 1 0", "not right"), ("step 2 1", NOT_UNDERSTOOD),
                           ("clause -1 0", "2"), ("step 2 2 0 1 2 0", "not right"), ("step 3 2 0 1 2 0", "taken"),
                           ("clause -2 0", NOT_UNDERSTOOD))

    def test_behind_other_lines(self):
        self.assert_played(1, ("holds 1 0", "yes"), ("count", "2"), ("clause 1 0", "1"), ("core", "no refutation"),
                           ("trim", "no refutation"), ("clause -1 0", "2"), ("count", "0"), ("clause 1 0", "3"))
        lines = ["solve", "clause 1 0", "solve", "clause -1 0", "solve", "clause 0", "count"]
        self.assertEqual(played(1, lines)[1::2], ["1", "2", "3"])

    def test_the_sixtieth_and_the_one_behind_it(self):
        sixty = [(f"clause {1 + number % 2} 0", str(number)) for number in range(1, 61)]
        self.assert_played(2, *sixty, ("clause 1 0", "too many"), ("clause 0", "too many"), ("clause -1 0", "too many"),
                           ("count", "1"), ("holds 1 2 0", "yes"), ("step 61 1 0 2 0", "taken"),
                           ("clause 1 0", NOT_UNDERSTOOD))
        self.assertEqual(sixty[-1], ("clause 1 0", "60"))

    def test_not_understood_comes_ahead_of_too_many(self):
        sixty = [f"clause {1 + number % 2} 0" for number in range(60)]
        for words in NO_CLAUSE:
            self.assert_last(2, sixty + [f"clause {words}"], NOT_UNDERSTOOD)
        self.assert_last(2, sixty + ["clause"], NOT_UNDERSTOOD)
        self.assert_last(2, sixty + ["step drop 0", "clause 1 0"], NOT_UNDERSTOOD)
        self.assert_last(2, sixty + ["step drop 0", "clause 3 0"], NOT_UNDERSTOOD)
        self.assert_last(2, sixty + ["step 3 0 1 0", "clause 1 0"], "too many")

    def test_too_many_changes_nothing(self):
        sixty = [f"clause {1 + number % 2} 0" for number in range(60)]
        behind = ["count", "solve", "clause 1 0", "step 61 1 0 1 0", "holds 1 2 0", "core", "step 62 2 0 2 0"]
        self.assert_changes_nothing(2, sixty, "clause 0", "too many", behind)
        self.assert_changes_nothing(2, sixty, "clause -1 0", "too many", behind)


class Steps(Base):
    def test_taken_and_refuted(self):
        self.assert_played(2, *zip(FOUR, "1234"), (STEPS[0], "taken"), ("step drop 99 0", "taken"),
                           (STEPS[1], "refuted"))
        self.assert_played(1, ("clause 0", "1"), ("step 2 0 1 0", "refuted"))
        self.assert_played(1, ("clause 0", "1"), ("step 2 1 0 1 0", "taken"), ("step 3 0 1 0", "refuted"))

    def test_each_way_in_which_a_clause_follows(self):
        self.assert_played(3, ("clause 1 2 0", "1"), ("clause -1 -2 0", "2"), ("step 3 1 -1 0 0", "taken"),
                           ("step 4 1 2 3 0 1 0", "taken"), ("step 5 3 0 0", "taken"),
                           ("step 7 1 2 0 -2 0", "not right"), ("step 7 1 2 0 -2 -3 0", "not right"),
                           ("step 7 1 2 0 -3 1 -2 1 0", "not right"), ("step 7 1 2 0 -3 1 -2 0", "taken"))

    def test_words_that_write_no_step(self):
        for words in NO_STEP:
            for ahead in ([], FOUR, FOUR + STEPS[:1], FOUR + STEPS):
                self.assert_last(2, [*ahead, f"step {words}"], NOT_UNDERSTOOD)
            self.assert_changes_nothing(2, FOUR, f"step {words}", NOT_UNDERSTOOD, [*STEPS, "core", "trim"])
            self.assert_changes_nothing(2, FOUR, f"step {words}", NOT_UNDERSTOOD, ["clause 1 0", "step 6 1 0 5 0"])

    def test_not_right(self):
        for line in ("step 4 2 0 1 2 0", "step 1 2 0 1 2 0", "step 5 3 0 0", "step 5 3 -3 0 0", "step 5 0 0",
                     "step 5 2 0 1 0", "step 5 2 0 1 9 0", "step 5 0 1 2 3 4 0", "step 5 1 0 -2 -4 0",
                     "step 5 2 0 2 2 0", "step 5 999999999 0 0", "step 5 2 0 999999999 0", "step 5 2 0 -999999999 0"):
            self.assert_played(2, *zip(FOUR, "1234"), (line, "not right"), (line, "not right"))
            self.assert_changes_nothing(2, FOUR, line, "not right", [*STEPS, "core", "trim", "count"])
            self.assert_changes_nothing(2, FOUR, line, "not right", ["clause 1 0", "step 6 2 0 1 2 0", "clause 2 0"])
            self.assert_changes_nothing(2, FOUR + ["step drop 99 0"], line, "not right", [*STEPS, "core", "trim"])

    def test_a_step_of_literals_that_the_book_has_not_is_not_right(self):
        self.assert_played(1, ("step 1 2 0 0", "not right"), ("step 1 -2 2 0 0", "not right"),
                           ("step 1 1 0 0", "taken"))

    def test_not_understood_comes_ahead_of_not_right(self):
        self.assert_played(1, ("step 1 0 0 0", NOT_UNDERSTOOD), ("step 1 9 0 5", NOT_UNDERSTOOD),
                           ("step 1 0 0", "not right"))

    def test_right_behind_those_taken(self):
        self.assert_played(2, *zip(FOUR, "1234"), ("step 6 0 5 3 4 0", "not right"), ("step 5 2 0 1 2 0", "taken"),
                           ("step 5 2 0 1 2 0", "not right"), ("step drop 1 0", "taken"),
                           ("step 6 1 2 0 1 0", "not right"), ("step 6 0 5 3 4 0", "refuted"))

    def test_drops(self):
        self.assert_played(2, *zip(FOUR, "1234"), ("step drop 5 0", "taken"), ("step drop 0", "taken"),
                           ("step drop 2 2 7 0", "taken"), ("step 5 2 0 1 2 0", "not right"), ("count", "0"),
                           ("step 5 1 0 1 3 0", "taken"), ("step drop 999999999 0", "taken"))

    def test_what_is_dropped_stays_a_clause_of_the_book(self):
        self.assert_played(1, ("clause 1 0", "1"), ("step drop 1 0", "taken"), ("count", "1"), ("holds -1 0", "no"),
                           ("solve", "model 1 0"))

    def test_what_steps_add_is_no_clause_of_the_book(self):
        self.assert_played(2, ("clause 1 2 0", "1"), ("step 2 1 0 0", "taken"), ("count", "3"), ("holds -1 2 0", "yes"))

    def test_steps_behind_the_refutation(self):
        more = ["step 7 1 0 6 0", "step 6 0 0", "step 1 99 0 98 0", "step drop 0", "step drop 1 2 3 4 5 6 0",
                "step 5 2 0 1 2 0", "step 7 0 -1 0", "step 999999999 999999999 0 -999999999 0"]
        rows = [(line, "refuted") for line in more]
        end = [("core", "core 1 2 3 4 0"), ("trim", "5 2 0 1 2 0 / 6 0 5 3 4 0"), ("count", "0")]
        for row in rows:
            self.assert_played(2, *zip(FOUR + STEPS, ["1", "2", "3", "4", "taken", "refuted"]), row, *end)
        self.assert_played(2, *zip(FOUR + STEPS, ["1", "2", "3", "4", "taken", "refuted"]), *rows, *rows, *end)

    def test_a_step_whose_line_is_strange_behind_the_refutation(self):
        for words in NO_STEP:
            self.assert_last(1, EMPTY_AT_ONCE + [f"step {words}"], NOT_UNDERSTOOD)

    def test_a_formula_that_has_the_empty_clause_is_not_refuted_yet(self):
        self.assert_played(1, ("clause 0", "1"), ("clause 1 0", "2"), ("step 3 -1 0 1 0", "taken"),
                           ("core", "no refutation"), ("step 4 0 2 3 0", "refuted"), ("core", "core 1 2 0"))


class Holds(Base):
    def test_yes_and_no(self):
        rows = [("clause 1 -2 0", "1"), ("clause 2 3 0", "2")]
        for model in itertools.product((1, -1), (2, -2), (3, -3)):
            wanted = "yes" if model in models_of(3, [(1, -2), (2, 3)]) else "no"
            for order in itertools.permutations(model):
                rows.append((" ".join(["holds", *map(str, order), "0"]), wanted))
        self.assert_played(3, *rows)
        self.assertEqual({answer for line, answer in rows}, {"1", "2", "yes", "no"})

    def test_no_clauses(self):
        self.assert_played(2, ("holds 1 2 0", "yes"), ("holds -2 -1 0", "yes"), ("clause 0", "1"),
                           ("holds 1 2 0", "no"))

    def test_clauses_with_literals_twice_and_opposites(self):
        self.assert_played(2, ("clause 1 1 0", "1"), ("clause 2 -2 0", "2"), ("holds 1 2 0", "yes"),
                           ("holds -1 2 0", "no"), ("holds -2 1 0", "yes"))

    def test_not_just_one_for_each_variable(self):
        for words in ("0", "1 0", "2 0", "-1 0", "1 1 0", "1 -1 0", "2 2 0", "1 2 1 0", "1 2 2 0", "1 2 -2 0",
                      "1 2 3 0", "-1 -3 0", "1 3 0", "2 1 2 1 0") + NO_CLAUSE:
            self.assert_last(2, [f"holds {words}"], NOT_UNDERSTOOD)
            self.assert_changes_nothing(2, FOUR, f"holds {words}", NOT_UNDERSTOOD, ["count", *STEPS, "core"])
        self.assert_last(0, ["holds 1 0"], NOT_UNDERSTOOD)
        self.assert_last(1, ["holds 0"], NOT_UNDERSTOOD)

    def test_twelve(self):
        literals = list(range(1, 13))
        line = " ".join(["holds", *map(str, reversed(literals)), "0"])
        self.assert_played(12, ("clause 12 -1 0", "1"), (line, "yes"), (line.replace(" 12 ", " -12 "), "no"),
                           (line.replace(" 12 ", " "), NOT_UNDERSTOOD), (line.replace(" 12 ", " 13 "), NOT_UNDERSTOOD),
                           (line.replace(" 12 ", " 11 "), NOT_UNDERSTOOD),
                           (line.replace(" 12 ", " -11 "), NOT_UNDERSTOOD))

    def test_behind_steps(self):
        self.assert_played(2, *zip(FOUR[:3], "123"), ("step 4 2 0 1 2 0", "taken"), ("holds 1 2 0", "yes"),
                           ("holds 2 -1 0", "no"))


class Told(Base):
    def assert_solved(self, variables, clauses, answer):
        """What `solve` answers is held against [3.1] and the form that [6.1] asks for."""
        words = answer.split(" ")
        if words[0] == "model":
            self.assertEqual(words[-1], "0")
            model = tuple(int(word) for word in words[1:-1])
            self.assertEqual([abs(literal) for literal in model], list(range(1, variables + 1)))
            self.assertTrue(all(set(clause) & set(model) for clause in clauses))
            self.assertEqual(answer, " ".join(["model", *map(str, model), "0"]))
        else:
            steps = [step_in(line) for line in answer.split(" / ")]
            self.assertTrue(all(step[0] == "add" and min(step[3], default=1) > 0 for step in steps))
            self.assertEqual([step for step in steps if step[2] == ()], steps[-1:])
            self.assertIs(checked(variables, clauses, steps), True)
            self.assertFalse(has_model(variables, clauses))

    def test_count(self):
        self.assert_played(3, ("count", "8"), ("clause 1 2 0", "1"), ("count", "6"), ("clause -2 0", "2"),
                           ("count", "2"), ("clause -1 0", "3"), ("count", "0"))

    def test_solve(self):
        self.assert_played(0, ("solve", "model 0"))
        self.assert_played(2, ("clause -1 0", "1"), ("clause 1 2 0", "2"), ("solve", "model -1 2 0"))
        self.assert_played(1, ("clause 1 0", "1"), ("clause -1 0", "2"), ("solve", "3 0 1 2 0"))

    def test_solve_known_formulas(self):
        for name, (variables, clauses) in itertools.chain(WITH.items(), WITHOUT.items()):
            if variables <= 12 and len(clauses) <= 60:
                with self.subTest(name):
                    answers = played(variables, clause_lines(clauses) + ["solve", "count", "solve"])
                    self.assert_solved(variables, clauses, answers[-1])
                    self.assertEqual(answers[-3], answers[-1])
                    self.assertEqual(answers[-1].startswith("model "), answers[-2] != "0")

    def test_a_refutation_that_is_told_is_taken(self):
        for name, (variables, clauses) in WITHOUT.items():
            if variables <= 12 and len(clauses) <= 60:
                lines = clause_lines(clauses)
                steps = [f"step {line}" for line in played(variables, lines + ["solve"])[-1].split(" / ")]
                answers = played(variables, lines + steps + ["trim", "core"])
                self.assertEqual(answers[len(lines):-2], ["taken"] * (len(steps) - 1) + ["refuted"], name)
                short = [step_in(line) for line in answers[-2].split(" / ")]
                self.assertIs(checked(variables, clauses, short), True, name)
                numbers = [int(word) for word in answers[-1].split(" ")[1:-1]]
                self.assertFalse(has_model(variables, [clauses[number - 1] for number in numbers]), name)

    def test_solve_count_and_holds_after_steps(self):
        lines = FOUR[:3] + ["step 4 2 0 1 2 0", "step drop 1 2 0"]
        self.assertEqual(played(2, lines + ["solve", "count", "holds 1 2 0"])[-3:], ["model 1 2 0", "1", "yes"])
        answers = played(2, FOUR + STEPS + ["solve", "count"])
        self.assert_solved(2, clauses_in(FOUR), answers[-2])
        self.assertEqual(answers[-1], "0")

    def test_core(self):
        self.assert_last(2, FOUR + STEPS + ["core"], "core 1 2 3 4 0")
        lines = ["clause 3 0", *FOUR, "clause 2 0", "step 7 2 3 0 6 0", "step 8 0 6 4 5 0", "core"]
        self.assert_last(3, lines, "core 4 5 6 0")

    def test_trim(self):
        self.assert_last(2, FOUR + STEPS + ["trim"], "5 2 0 1 2 0 / 6 0 5 3 4 0")
        lines = ["clause 3 0", *FOUR, "clause 2 0", "step 7 2 3 0 6 0", "step 8 0 6 4 5 0", "trim"]
        self.assert_last(3, lines, "8 0 6 4 5 0")
        lines[-2] = "step 8 0 6 4 5 7 99 0"
        self.assert_last(3, lines, "7 2 3 0 6 0 / 8 0 6 4 5 7 99 0")

    def test_core_and_trim_where_clauses_are_dropped(self):
        lines = ["clause 1 2 3 0", *FOUR, "step 6 1 2 0 2 0", "step drop 1 7 0", "step 8 2 0 2 3 0", "step 9 0 8 4 5 0"]
        self.assert_last(3, lines + ["core"], "core 1 2 3 4 5 0")
        self.assert_last(3, lines + ["trim"], "6 1 2 0 2 0 / drop 1 7 0 / 8 2 0 2 3 0 / 9 0 8 4 5 0")
        lines[6] = "step drop 0"
        self.assert_last(3, lines + ["step drop 3 0", "trim"], "6 1 2 0 2 0 / drop 0 / 8 2 0 2 3 0 / 9 0 8 4 5 0")

    def test_core_and_trim_with_hints_below_nought(self):
        lines = [*FOUR, "clause 1 0", "step 6 3 0 0", "step 7 -3 1 0 -6 5 0", "step 8 2 0 1 2 0", "step 9 0 8 3 4 0"]
        self.assert_last(3, lines + ["core"], "core 1 2 3 4 5 0")
        self.assert_last(3, lines + ["trim"], "6 3 0 0 / 7 -3 1 0 -6 5 0 / 8 2 0 1 2 0 / 9 0 8 3 4 0")

    def test_no_refutation(self):
        for lines in ([], FOUR, FOUR + STEPS[:1], FOUR + ["step drop 0"], ["clause 0"], FOUR + STEPS[1:]):
            for line in ("core", "trim"):
                self.assert_last(2, [*lines, line], "no refutation")
                self.assert_changes_nothing(2, lines, line, "no refutation", ["clause 1 0", *STEPS, "core", "trim"])

    def test_words_behind(self):
        for line in ("count", "solve", "core", "trim"):
            for more in (" ", "  ", " 0", " 1", " 1 0", f" {line}", "0", " /", "s", ".", " -"):
                for lines in ([], FOUR, FOUR + STEPS):
                    self.assert_last(2, [*lines, line + more], NOT_UNDERSTOOD)
                    self.assert_last(2, [*lines, " " + line], NOT_UNDERSTOOD)


class AllOtherLines(Base):
    def test_strange_lines(self):
        for line in STRANGE:
            for variables, lines in ((0, []), (2, []), (2, FOUR), (2, FOUR + STEPS[:1]), (2, FOUR + STEPS)):
                self.assert_last(variables, [*lines, line], NOT_UNDERSTOOD)
            behind = ["clause 0", "count", "step 6 0 5 0", "core", "trim"]
            self.assert_changes_nothing(2, FOUR, line, NOT_UNDERSTOOD, behind)

    def test_every_line_has_one_answer(self):
        lines = list(STRANGE) + FOUR + list(STRANGE) + STEPS + list(STRANGE)
        answers = played(2, lines)
        self.assertEqual(len(answers), len(lines))
        understood = [answer for answer in answers if answer != NOT_UNDERSTOOD]
        self.assertEqual(understood, ["1", "2", "3", "4", "taken", "refuted"])


class Lines(Base):
    def draw_line(self, chance, book):
        """A line of which many are understood."""
        kind = chance.choice(("clause", "step", "step", "clause", "step", "step", "holds", "count", "core", "trim",
                              "strange"))
        literals = drawn(chance, book.variables, 1, chance.choice((0, 1, 1, 2, 3)))[0]
        numbers = range(1, len(book.clauses) + len(book.steps) + 2)
        if kind == "step" and chance.randrange(6):
            hints = [chance.choice(numbers) for place in range(chance.randrange(4))]
            line = " ".join(map(str, ["step", len(numbers), *literals, 0, *hints, 0]))
        elif kind == "step":
            line = f"step drop {chance.choice(numbers)} 0"
        elif kind == "holds":
            pairs = [chance.choice((1, -1)) * variable for variable in range(1, book.variables + 1)]
            line = " ".join(map(str, ["holds", *chance.sample(pairs, len(pairs)), 0]))
        elif kind == "clause":
            line = " ".join(map(str, ["clause", *literals, 0]))
        else:
            line = chance.choice(STRANGE) if kind == "strange" else kind
        if not chance.randrange(8):
            place = chance.randrange(len(line) + 1)
            line = line[:place] + chance.choice((" ", "0", "1", "-", "9", " 0", " 1", "x")) + line[place:]
        if not chance.randrange(12) and line:
            place = chance.randrange(len(line))
            line = line[:place] + line[place + 1:]
        return line

    def test_books_by_chance(self):
        chance = random.Random(31)
        seen = {}
        for number in range(400):
            book = Other(chance.randrange(4))
            lines, wanted = [], []
            for place in range(40):
                lines.append(self.draw_line(chance, book))
                wanted.append(book.answer(lines[-1]))
                seen[wanted[-1]] = seen.get(wanted[-1], 0) + 1
            answers = played(book.variables, lines)
            for line, one, other in zip(lines, answers, wanted, strict=True):
                if other is not None:
                    self.assertEqual(one, other, (line, lines))
        for answer in ("taken", "refuted", "not right", NOT_UNDERSTOOD, "no refutation", "yes", "no", "0", "1", "2"):
            self.assertGreater(seen.get(answer, 0), 50, (answer, seen))

    def test_refused_lines_left_out(self):
        chance = random.Random(32)
        refused = (NOT_UNDERSTOOD, "too many", "not right", "no refutation")
        for number in range(150):
            book = Other(chance.randrange(1, 4))
            lines = []
            for place in range(40):
                lines.append(self.draw_line(chance, book))
                book.answer(lines[-1])
            answers = played(book.variables, lines)
            rows = [(line, answer) for line, answer in zip(lines, answers) if answer not in refused]
            self.assert_played(book.variables, *rows)


class NothingKept(Base):
    def test_what_is_handed_in_is_as_it_was(self):
        lines = FOUR + ["what", *STEPS, "trim", "core", "solve", "clause 1 0"]
        before = list(lines)
        answers = played(2, lines)
        self.assertEqual(lines, before)
        told = list(answers)
        lines.clear()
        self.assertEqual(answers, told)
        answers.clear()
        self.assertEqual(played(2, before), told)
