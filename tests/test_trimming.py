"""[4.1] to [4.3]: refutations, cut down to what they need."""

import random
import unittest

from clausekeep.checking import Keeper, checked
from clausekeep.errors import ClauseError, NoRefutation, NotRight
from clausekeep.searching import solved
from clausekeep.trimming import core, trimmed
from tests.helpers import WITHOUT, drawn, drawn_wide, has_model

FOUR = [(1, 2), (-1, 2), (1, -2), (-1, -2)]
STEPS = [("add", 5, (2,), (1, 2)), ("add", 6, (), (5, 3, 4))]

# FOUR among clauses that no refutation of it needs.
MORE = [(3, 1), (1, 2), (-1, 2), (3, -3), (1, -2), (-1, -2), (2, 3), (1, 2)]
MORE_STEPS = [("add", 9, (2,), (2, 3)), ("add", 10, (), (9, 5, 6))]

# Whatever stands behind the empty clause is taken: each of these would elsewhere change what is wanted, or be wrong.
BEHIND = (
    ("add", 7, (), (1, 2, 3, 4, 5, 6)),
    ("add", 7, (), (6,)),
    ("add", 7, (1,), (6,)),
    ("add", 5, (2,), (1, 2)),
    ("add", 6, (), ()),
    ("add", 1, (99,), (98,)),
    ("add", 7, (-1,), (-1, -3)),
    ("add", 7, (1, -1), (-6,)),
    ("drop", ()),
    ("drop", (1, 2, 5, 6)),
    ("drop", (999,)),
)


def wanted_by(steps):
    """The numbers that are wanted, by another way of telling: what is wanted grows until it stays."""
    wanted = {steps[-1][1]}
    while True:
        more = {hint for step in steps if step[1] in wanted for hint in step[3] if hint < step[1]}
        if more <= wanted:
            return wanted
        wanted |= more


class Base(unittest.TestCase):
    def assert_cut(self, variables, clauses, steps, wanted_steps, wanted_core):
        """What is told is as wanted and keeps [4.2]; what was handed in is as it was."""
        clauses_before, steps_before = list(clauses), list(steps)
        short, numbers = trimmed(variables, clauses, steps), core(variables, clauses, steps)
        self.assertIs(type(short), list)
        self.assertIs(type(numbers), list)
        self.assertEqual(short, wanted_steps)
        self.assertEqual(numbers, wanted_core)
        self.assertTrue(all(type(number) is int for number in numbers))
        self.assertEqual((clauses, steps), (clauses_before, steps_before))
        self.assert_again(variables, clauses, short, numbers)

    def assert_again(self, variables, clauses, short, numbers):
        """[4.2], and trimmed once more it stays."""
        self.assertIs(checked(variables, clauses, short), True)
        self.assertEqual(trimmed(variables, clauses, short), short)
        self.assertEqual(core(variables, clauses, short), numbers)
        self.assertEqual([step for step in short if step[2:3] == ((),)], short[-1:])
        if variables <= 12:
            self.assertFalse(has_model(variables, [clauses[number - 1] for number in numbers]))


class Wanted(Base):
    def test_all_are_wanted(self):
        self.assert_cut(2, FOUR, STEPS, STEPS, [1, 2, 3, 4])
        self.assert_cut(1, [(1,), (-1,)], [("add", 3, (), (1, 2))], [("add", 3, (), (1, 2))], [1, 2])

    def test_some_clauses_are_not_wanted(self):
        self.assert_cut(3, MORE, MORE_STEPS, MORE_STEPS, [2, 3, 5, 6])

    def test_the_core_rises_whatever_the_order_of_the_hints(self):
        steps = [("add", 5, (-2,), (4, 3)), ("add", 6, (), (5, 2, 1))]
        self.assert_cut(2, FOUR, steps, steps, [1, 2, 3, 4])
        steps = [("add", 9, (-2,), (6, 5)), ("add", 10, (), (9, 8, 3))]
        self.assert_cut(3, MORE, steps, steps, [3, 5, 6, 8])

    def test_a_number_that_is_wanted_often_is_told_once(self):
        steps = [("add", 5, (2,), (1, 2)), ("add", 6, (2, 1), (1, 1, 2)), ("add", 7, (), (5, 3, 4, 5, 3, 6, 6, 1))]
        self.assert_cut(2, FOUR, steps, steps, [1, 2, 3, 4])

    def test_steps_that_are_not_wanted(self):
        spare = ("add", 5, (2, 1), (1,))
        first, last = ("add", 6, (2,), (1, 2)), ("add", 9, (), (6, 3, 4))
        self.assert_cut(2, FOUR, [spare, first, last], [first, last], [1, 2, 3, 4])
        between = ("add", 7, (1,), (6, 3))
        self.assert_cut(2, FOUR, [first, between, last], [first, last], [1, 2, 3, 4])
        close = ("add", 8, (-2,), (7, 4))
        self.assert_cut(2, FOUR, [spare, first, between, close, last], [first, last], [1, 2, 3, 4])

    def test_what_a_step_that_is_not_wanted_wants_is_not_wanted(self):
        steps = [("add", 9, (3, 2), (1, 3)), ("add", 10, (2,), (2, 3)), ("add", 11, (3, 2, -1), (9,)),
                 ("add", 12, (3, 2), (1, 11)), ("add", 13, (), (10, 5, 6))]
        self.assert_cut(3, MORE, steps, [steps[1], steps[4]], [2, 3, 5, 6])

    def test_a_row_of_steps_that_want_one_another(self):
        clauses = [(1,)] + [(-variable, variable + 1) for variable in range(1, 12)] + [(-12,), (7,)]
        # Clause 13 + variable tells the variable, by the one ahead of it.
        row = [("add", 15, (2,), (1, 2))] + [
            ("add", 13 + variable, (variable,), (12 + variable, variable)) for variable in range(3, 13)]
        last = ("add", 26, (), (25, 13))
        self.assert_cut(12, clauses, row + [last], row + [last], list(range(1, 14)))
        # Where 7 is told by a clause of the formula, what leads to it is not wanted.
        row[6] = ("add", 21, (8,), (14, 8))
        self.assert_cut(12, clauses, row + [last], row[6:] + [last], list(range(8, 15)))

    def test_numbers_with_gaps(self):
        steps = [("add", 20, (2,), (1, 2)), ("add", 21, (1,), (1, 3)), ("add", 999999999, (), (20, 3, 4))]
        self.assert_cut(2, FOUR, steps, [steps[0], steps[2]], [1, 2, 3, 4])

    def test_hints_that_no_clause_has(self):
        steps = [("add", 20, (2,), (1, 2, 9, 7)), ("add", 30, (), (20, 3, 4, 25, 5))]
        self.assert_cut(2, FOUR, steps, steps, [1, 2, 3, 4])


class Hints(Base):
    def test_hints_that_are_not_less_than_the_steps_own_number(self):
        steps = [("add", 5, (2,), (1, 2, 6, 5, 7, 8, 99)), ("add", 6, (2, 1), (1,)), ("add", 7, (), (5, 3, 4, 7, 8, 9))]
        self.assert_cut(2, FOUR, steps, [steps[0], steps[2]], [1, 2, 3, 4])
        # The empty clause wants 5 by a hint of its own, not by what 5 says of itself.
        steps = [("add", 5, (2, 1), (1, 5)), ("add", 6, (2,), (1, 2, 7)), ("add", 7, (1,), (1, 3)),
                 ("add", 8, (), (6, 3, 4))]
        self.assert_cut(2, FOUR, steps, [steps[1], steps[3]], [1, 2, 3, 4])

    def test_a_hint_behind_the_one_that_ends_is_wanted_too(self):
        steps = [("add", 5, (1,), (1, 3)), ("add", 6, (2,), (1, 2)), ("add", 7, (), (6, 3, 4, 5))]
        self.assert_cut(2, FOUR, steps, steps, [1, 2, 3, 4])
        steps = [("add", 9, (2,), (2, 3, 7)), ("add", 10, (), (9, 5, 6, 1))]
        self.assert_cut(3, MORE, steps, steps, [1, 2, 3, 5, 6, 7])

    def test_what_is_wanted_behind_the_one_that_ends_wants_more(self):
        steps = [("add", 9, (3, 2), (1, 3)), ("add", 10, (2, 3), (9, 8)), ("add", 11, (2,), (2, 3, 10)),
                 ("add", 12, (), (11, 5, 6))]
        self.assert_cut(3, MORE, steps, steps, [1, 2, 3, 5, 6, 8])

    def test_a_step_that_follows_because_of_opposites(self):
        steps = [("add", 9, (1, -1), (7, 4, 50, 9, 10, 11)), ("add", 10, (2,), (2, 3)), ("add", 11, (), (10, 5, 6, 9))]
        self.assert_cut(3, MORE, steps, steps, [2, 3, 4, 5, 6, 7])
        steps[2] = ("add", 11, (), (10, 5, 6))
        self.assert_cut(3, MORE, steps, steps[1:], [2, 3, 5, 6])
        steps = [("add", 9, (2, 3, -3), ()), ("add", 10, (2,), (2, 3, 9)), ("add", 11, (), (10, 5, 6))]
        self.assert_cut(3, MORE, steps, steps, [2, 3, 5, 6])

    def test_a_step_that_follows_for_want_of_opposites(self):
        # No clause has -3, so 3 follows without a hint that ends it.
        steps = [("add", 5, (3,), ()), ("add", 6, (3, 1), (3,)), ("add", 7, (2,), (5, 1, 2)), ("add", 8, (), (7, 3, 4))]
        self.assert_cut(3, FOUR, steps, [steps[0], steps[2], steps[3]], [1, 2, 3, 4])
        steps[1] = ("add", 6, (3, 1), (3, 5))
        self.assertEqual(trimmed(3, FOUR, steps), [steps[0], steps[2], steps[3]])
        steps[3] = ("add", 8, (), (7, 3, 4, 6))
        self.assert_cut(3, FOUR, steps, steps, [1, 2, 3, 4])

    def test_hints_that_none_ends_are_wanted_too(self):
        clauses = FOUR + [(3, 4), (4, 1)]
        steps = [("add", 7, (3, -1), (6,)), ("add", 8, (3, 4), (5,)), ("add", 9, (), (1, 2, 3, 4))]
        self.assertRaises(NotRight, trimmed, 4, clauses, steps)
        steps = [("add", 7, (3,), (5,)), ("add", 8, (2,), (7, 1, 2)), ("add", 9, (), (8, 3, 4))]
        self.assert_cut(4, clauses, steps, steps, [1, 2, 3, 4, 5])


class Elsewhere(Base):
    def test_a_drop_ahead_of_the_empty_clause(self):
        for drop in (("drop", ()), ("drop", (7,)), ("drop", (8, 1)), ("drop", (999, 9))):
            spare = ("add", 9, (2, 3, 1), (2,))
            row = [("add", 10, (2,), (2, 3)), ("add", 11, (), (10, 5, 6))]
            for steps in ([drop, spare] + row, [spare, drop] + row, [spare, row[0], drop, row[1]]):
                self.assert_cut(3, MORE, steps, steps, [1, 2, 3, 4, 5, 6, 7, 8])
                for step in BEHIND:
                    self.assert_cut(3, MORE, steps + [step], steps, [1, 2, 3, 4, 5, 6, 7, 8])

    def test_a_drop_behind_the_empty_clause(self):
        for drop in (("drop", ()), ("drop", (2, 9)), ("drop", (10,))):
            spare = ("add", 9, (2, 3), (7,))
            row = [("add", 10, (2,), (2, 3)), ("add", 11, (), (10, 5, 6))]
            self.assert_cut(3, MORE, [spare] + row + [drop], row, [2, 3, 5, 6])

    def test_hints_below_nought_ahead_of_the_empty_clause(self):
        everything = [1, 2, 3, 4]
        # 5 and 6 make the variable 3, which is in no clause ahead of them, the opposite of 1.
        steps = [("add", 5, (3, 1), ()), ("add", 6, (-3, -1), (-5,)), ("add", 7, (3, 2), (5, 2)),
                 ("add", 8, (-3, 2), (6, 1)), ("add", 9, (2,), (7, 8)), ("add", 10, (), (9, 3, 4))]
        self.assert_cut(3, FOUR, steps, steps, everything)
        steps = steps[:2] + [("add", 7, (2, 1), (1,)), ("add", 8, (2,), (1, 2)), ("add", 9, (), (8, 3, 4))]
        self.assert_cut(3, FOUR, steps, steps, everything)

    def test_hints_below_nought_that_are_not_looked_at(self):
        spare = ("add", 9, (2, 3), (7,))
        plain = [("add", 10, (1, 2), (2,)), ("add", 11, (2,), (2, 3)), ("add", 12, (), (11, 5, 6))]
        odd_ones = [("add", 10, (1, 2), (2, -7)), ("add", 11, (2,), (2, 3, -1)), ("add", 12, (), (11, 5, 6, -999))]
        self.assert_cut(3, MORE, [spare] + plain, plain[1:], [2, 3, 5, 6])
        for place in range(3):
            steps = [spare] + plain[:place] + [odd_ones[place]] + plain[place + 1:]
            self.assert_cut(3, MORE, steps, steps, [1, 2, 3, 4, 5, 6, 7, 8])
        steps = [("add", 9, (3, -3), (-1,))] + plain
        self.assert_cut(3, MORE, steps, steps, [1, 2, 3, 4, 5, 6, 7, 8])

    def test_hints_below_nought_behind_the_empty_clause(self):
        spare = ("add", 5, (2, 1), (1,))
        row = [("add", 6, (2,), (1, 2)), ("add", 7, (), (6, 3, 4))]
        for step in (("add", 8, (1,), (-1,)), ("add", 8, (), (-7,)), ("add", 8, (1, -1), (7, -7))):
            self.assert_cut(2, FOUR, [spare] + row + [step], row, [1, 2, 3, 4])


class EmptyClauses(Base):
    def test_a_clause_of_the_formula_that_is_empty(self):
        self.assert_cut(0, [()], [("add", 2, (), (1,))], [("add", 2, (), (1,))], [1])
        self.assert_cut(1, [(1,), ()], [("add", 3, (), (2,))], [("add", 3, (), (2,))], [2])
        self.assert_cut(1, [(), ()], [("add", 3, (), (2,))], [("add", 3, (), (2,))], [2])
        self.assert_cut(1, [(), ()], [("add", 3, (), (2, 1))], [("add", 3, (), (2, 1))], [1, 2])
        steps = [("add", 4, (1,), (2,)), ("add", 5, (-1,), (2,)), ("add", 6, (), (4, 5))]
        self.assert_cut(1, [(1,), (), (-1,)], steps, steps, [2])
        steps = [("add", 4, (1,), (2,)), ("add", 5, (), (1, 3))]
        self.assert_cut(1, [(1,), (), (-1,)], steps, steps[1:], [1, 3])

    def test_a_formula_that_has_the_empty_clause_and_steps_that_never_add_it(self):
        for steps in ([], [("add", 3, (1,), (2,))], [("drop", (1,))]):
            self.assertRaises(NoRefutation, trimmed, 1, [(1,), ()], steps)
            self.assertRaises(NoRefutation, core, 1, [(1,), ()], steps)

    def test_a_drop_of_nothing_is_no_empty_clause(self):
        steps = [("drop", ())] + STEPS
        self.assert_cut(2, FOUR, steps, steps, [1, 2, 3, 4])
        self.assertRaises(NoRefutation, trimmed, 2, FOUR, [("drop", ()), STEPS[0], ("drop", ())])

    def test_a_second_empty_clause(self):
        for second in (("add", 7, (), (6,)), ("add", 7, (), (5, 3, 4)), ("add", 7, (), ()), ("add", 6, (), (1, 9))):
            self.assert_cut(2, FOUR, STEPS + [second], STEPS, [1, 2, 3, 4])
        steps = MORE_STEPS + [("add", 11, (), (1, 2, 3, 4, 5, 6, 7, 8, 9, 10))]
        self.assert_cut(3, MORE, steps, MORE_STEPS, [2, 3, 5, 6])

    def test_whatever_stands_behind_is_taken(self):
        for step in BEHIND:
            self.assert_cut(2, FOUR, STEPS + [step], STEPS, [1, 2, 3, 4])
        self.assert_cut(2, FOUR, STEPS + list(BEHIND), STEPS, [1, 2, 3, 4])

    def test_a_number_that_comes_again_behind_is_not_taken_for_one_ahead(self):
        steps = [("add", 5, (2, 1), (1,)), ("add", 6, (2,), (1, 2)), ("add", 7, (), (6, 3, 4)),
                 ("add", 6, (1,), (5,)), ("add", 7, (), (5,))]
        self.assert_cut(2, FOUR, steps, steps[1:3], [1, 2, 3, 4])


class Solved(Base):
    def assert_cut_as_told(self, variables, clauses, steps, *behind):
        wanted = wanted_by(steps)
        self.assert_cut(variables, clauses, steps + list(behind), [step for step in steps if step[1] in wanted],
                        [number for number in range(1, len(clauses) + 1) if number in wanted])

    def test_the_steps_of_solved(self):
        for name, (variables, clauses) in WITHOUT.items():
            with self.subTest(name):
                self.assert_cut_as_told(variables, clauses, solved(variables, clauses)[1])

    def test_the_steps_of_solved_for_formulas_by_chance(self):
        for seed in range(30):
            clauses = drawn_wide(seed, 8, 60)
            model, steps = solved(8, clauses)
            if model is None:
                self.assert_cut_as_told(8, clauses, steps)

    def spread_out(self, chance, variables, clauses, steps):
        """The steps with others between, gaps in their numbers, and hints behind those that end them."""
        numbers = {number: number for number in range(1, len(clauses) + 1)}
        table = dict(enumerate(clauses, start=1))
        greatest, answer = len(clauses), []
        for step in steps:
            for spare in range(chance.randrange(3)):
                greatest += chance.randrange(1, 3)
                source = chance.choice(sorted(table))
                clause = chance.choice(((1, -1), table[source] + (chance.choice((1, -1)),)))
                hints = tuple(chance.randrange(1, greatest + 5) for hint in range(chance.randrange(3)))
                if clause:
                    answer.append(("add", greatest, clause, (source,) + hints))
                    table[greatest] = clause
            greatest += chance.randrange(1, 3)
            hints = tuple(chance.randrange(1, greatest + 5) for hint in range(chance.randrange(2)))
            numbers[step[1]] = greatest
            answer.append(("add", greatest, step[2], tuple(numbers[hint] for hint in step[3]) + hints))
            table[greatest] = step[2]
        return answer

    def test_steps_with_others_between(self):
        chance = random.Random(17)
        shorter = smaller = 0
        for number in range(150):
            variables = chance.randrange(1, 6)
            clauses = [clause for clause in drawn(chance, variables, chance.randrange(6, 25), 3) if clause]
            model, steps = solved(variables, clauses)
            if model is None:
                steps = self.spread_out(chance, variables, clauses, steps)
                self.assert_cut_as_told(variables, clauses, steps)
                self.assert_cut_as_told(variables, clauses, steps, *BEHIND)
                shorter += len(trimmed(variables, clauses, steps)) < len(steps)
                smaller += len(core(variables, clauses, steps)) < len(clauses)
        self.assertGreater(shorter, 40)
        self.assertGreater(smaller, 40)

    def right_steps(self, chance, variables, clauses):
        """Steps by chance that are right, up to the empty clause if they come to it."""
        keeper, steps, numbers = Keeper(variables, clauses), [], list(range(1, len(clauses) + 1))
        for draw in range(60):
            number = numbers[-1] + chance.randrange(1, 3)
            clause = drawn(chance, variables, 1, chance.choice((0, 1, 1, 2)))[0]
            hints = tuple(chance.choice(numbers + [number, number + 1]) for place in range(chance.randrange(5)))
            try:
                keeper.take(("add", number, clause, hints))
            except NotRight:
                continue
            steps.append(("add", number, clause, hints))
            numbers.append(number)
            if keeper.refuted:
                break
        return steps

    def test_refutations_by_chance(self):
        chance = random.Random(18)
        done = 0
        for number in range(3000):
            variables = chance.randrange(1, 4)
            clauses = [clause for clause in drawn(chance, variables, chance.randrange(2, 12), 3) if clause]
            steps = [] if has_model(variables, clauses) else self.right_steps(chance, variables, clauses)
            if steps and steps[-1][2] == ():
                done += 1
                self.assert_cut_as_told(variables, clauses, steps)
        self.assertGreater(done, 100)


class Refusals(Base):
    def assert_not_right(self, variables, clauses, steps, place):
        clauses_before, steps_before = list(clauses), list(steps)
        for cut in (trimmed, core):
            for kind in (NotRight, ClauseError, ValueError):
                with self.assertRaises(kind) as caught:
                    cut(variables, clauses, steps)
                self.assertIs(type(caught.exception), NotRight)
                self.assertEqual(caught.exception.place, place)
        self.assertEqual((clauses, steps), (clauses_before, steps_before))

    def assert_no_refutation(self, variables, clauses, steps):
        clauses_before, steps_before = list(clauses), list(steps)
        for cut in (trimmed, core):
            for kind in (NoRefutation, ClauseError, ValueError):
                with self.assertRaises(kind) as caught:
                    cut(variables, clauses, steps)
                self.assertIs(type(caught.exception), NoRefutation)
        self.assertEqual((clauses, steps), (clauses_before, steps_before))

    def test_a_step_that_is_not_right(self):
        for wrong in (("add", 4, (2,), (1, 2)), ("add", 5, (3, -3), ()), ("add", 5, (), ()), ("add", 5, (2,), (1, 9)),
                      ("add", 5, (1,), (-2, -4)), ("add", 5, (), (5,))):
            self.assert_not_right(2, FOUR, [wrong], 0)
            self.assert_not_right(2, FOUR, [wrong] + STEPS, 0)
            self.assert_not_right(2, FOUR, [("drop", ()), wrong] + STEPS, 1)
            self.assert_not_right(2, FOUR, [("drop", ()), ("drop", (9,)), wrong, wrong], 2)
        self.assert_not_right(2, FOUR, [STEPS[0], STEPS[0], STEPS[1]], 1)
        self.assert_not_right(2, FOUR, [STEPS[1], STEPS[0]], 0)

    def test_a_step_that_is_not_right_and_that_nothing_wants(self):
        self.assert_not_right(2, FOUR, [STEPS[0], ("add", 6, (1,), (1,)), ("add", 7, (), (5, 3, 4))], 1)
        self.assert_not_right(2, FOUR, [("drop", (1,))] + STEPS, 1)

    def test_a_step_that_is_not_right_where_there_is_no_empty_clause(self):
        self.assert_not_right(2, FOUR, [STEPS[0], ("add", 6, (1,), (1,))], 1)

    def test_right_steps_without_the_empty_clause(self):
        for steps in ([STEPS[0]], [("drop", ())], [("drop", (1, 2, 3, 4))],
                      [("add", 5, (1, -1), ()), ("add", 6, (2,), (1, 2))]):
            self.assert_no_refutation(2, FOUR, steps)

    def test_no_steps_at_all(self):
        for variables, clauses in ((0, []), (0, [()]), (1, [(1,), (-1,)]), (2, FOUR), (12, []), (1, [(), (1,)])):
            self.assert_no_refutation(variables, clauses, [])

    def test_a_formula_that_has_a_model(self):
        self.assert_no_refutation(2, FOUR[:3], [("add", 4, (2,), (1, 2)), ("add", 5, (1,), (4, 3))])
        self.assert_not_right(2, FOUR[:3], [("add", 4, (2,), (1, 2)), ("add", 5, (), (4, 3, 1, 2))], 1)


class NothingKept(Base):
    def test_what_is_done_afterwards_changes_nothing_that_was_told(self):
        for steps in (list(MORE_STEPS), [("drop", ())] + MORE_STEPS):
            clauses = list(MORE)
            short, numbers = trimmed(3, clauses, steps), core(3, clauses, steps)
            told = (list(short), list(numbers))
            before = list(steps)
            clauses.clear()
            steps.clear()
            self.assertEqual((short, numbers), told)
            short.clear()
            numbers.append(99)
            self.assertEqual((trimmed(3, MORE, before), core(3, MORE, before)), told)

    def test_what_is_done_to_the_answer_does_not_change_the_steps(self):
        for steps in (list(MORE_STEPS), [("drop", ())] + MORE_STEPS):
            before = list(steps)
            trimmed(3, MORE, steps).clear()
            self.assertEqual(steps, before)
