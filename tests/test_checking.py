"""[2.3]: keepers, and steps looked through; [0.2]: what is taken as a refutation is of a formula without a model."""

import random
import unittest

from clausekeep.checking import Keeper, checked
from clausekeep.errors import ClauseError, NotRight
from tests.helpers import drawn, has_model

FOUR = [(1, 2), (-1, 2), (1, -2), (-1, -2)]
STEPS = [("add", 5, (2,), (1, 2)), ("add", 6, (), (5, 3, 4))]

# None of these is right behind the clauses of FOUR.
WRONG = (
    ("add", 4, (2,), (1, 2)),
    ("add", 1, (2,), (1, 2)),
    ("add", 5, (3, -3), ()),
    ("add", 5, (), ()),
    ("add", 5, (), (1, 2, 3, 4)),
    ("add", 5, (2,), (1, 9)),
    ("add", 5, (2,), (1,)),
    ("add", 5, (1,), (-2, -4)),
)


def refused_place(act, *arguments):
    """The place that a refusal tells, or None where nothing is refused."""
    try:
        act(*arguments)
    except NotRight as refusal:
        return refusal.place
    return None


class Base(unittest.TestCase):
    def assert_taken(self, keeper, *steps):
        for step in steps:
            self.assertIsNone(keeper.take(step), step)

    def assert_refused(self, keeper, step, place):
        with self.assertRaises(NotRight, msg=step) as caught:
            keeper.take(step)
        self.assertEqual(caught.exception.place, place, step)
        self.assertIs(type(caught.exception.place), int)


class Numbers(Base):
    def test_numbers_that_are_not_above_the_greatest(self):
        for number in (1, 2, 3, 4):
            self.assert_refused(Keeper(2, FOUR), ("add", number, (2,), (1, 2)), 0)
        for number in (5, 6, 61, 999999999, 1000000000):
            self.assert_taken(Keeper(2, FOUR), ("add", number, (2,), (1, 2)))

    def test_the_number_of_what_was_added_is_the_greatest(self):
        for number in (1, 4, 5, 9, 10):
            keeper = Keeper(2, FOUR)
            self.assert_taken(keeper, ("add", 10, (2,), (1, 2)))
            self.assert_refused(keeper, ("add", number, (1,), (10, 3)), 1)
            self.assert_taken(keeper, ("add", 11, (1,), (10, 3)))

    def test_a_clause_is_in_the_table_by_its_number(self):
        keeper = Keeper(2, FOUR)
        self.assert_taken(keeper, ("add", 70, (2,), (1, 2)))
        self.assert_refused(keeper, ("add", 71, (), (5, 3, 4)), 1)
        self.assert_taken(keeper, ("add", 71, (), (70, 3, 4)))
        self.assertIs(keeper.refuted, True)

    def test_a_formula_without_clauses_begins_with_one(self):
        self.assert_taken(Keeper(1, []), ("add", 1, (1,), ()))
        self.assert_taken(Keeper(1, []), ("add", 1, (1, -1), ()), ("add", 2, (1, -1), ()))
        self.assert_refused(Keeper(1, []), ("add", 1, (), ()), 0)

    def test_dropped_numbers_do_not_come_free(self):
        keeper = Keeper(2, FOUR)
        self.assert_taken(keeper, ("add", 8, (2,), (1, 2)), ("drop", (8, 4)))
        for number in (4, 5, 8):
            self.assert_refused(keeper, ("add", number, (2,), (1, 2)), 2)
        self.assert_taken(keeper, ("add", 9, (2,), (1, 2)))
        keeper = Keeper(2, FOUR)
        self.assert_taken(keeper, ("drop", (4,)))
        self.assert_refused(keeper, ("add", 4, (2,), (1, 2)), 1)

    def test_numbers_that_are_dropped_do_not_raise_the_greatest(self):
        keeper = Keeper(2, FOUR)
        self.assert_taken(keeper, ("drop", (50,)), ("add", 5, (2,), (1, 2)))


class Literals(Base):
    def test_a_variable_that_the_formula_has_not(self):
        for clause in ((3,), (-3,), (2, 3), (2, -3), (3, 2), (12, 2), (2, 999999999)):
            self.assert_refused(Keeper(2, FOUR), ("add", 5, clause, (1, 2)), 0)
            self.assert_refused(Keeper(2, FOUR), ("add", 5, clause, ()), 0)

    def test_a_variable_that_the_formula_has_not_with_its_opposite(self):
        self.assert_refused(Keeper(2, FOUR), ("add", 5, (3, -3), ()), 0)
        self.assert_refused(Keeper(2, FOUR), ("add", 5, (1, -1, -3), ()), 0)
        self.assert_taken(Keeper(2, FOUR), ("add", 5, (1, -1, -2), ()))

    def test_variables_that_are_in_no_clause_are_the_formulas_too(self):
        self.assert_taken(Keeper(3, FOUR), ("add", 5, (3,), ()), ("add", 6, (2, -3), (1, 2)))
        self.assert_taken(Keeper(12, FOUR), ("add", 5, (-12,), ()))
        self.assert_refused(Keeper(12, FOUR), ("add", 5, (-13,), ()), 0)

    def test_no_variables(self):
        self.assert_refused(Keeper(0, []), ("add", 1, (1,), ()), 0)
        self.assert_refused(Keeper(0, []), ("add", 1, (1, -1), ()), 0)
        self.assert_refused(Keeper(0, [()]), ("add", 2, (-1,), (1,)), 0)
        self.assert_taken(Keeper(0, [()]), ("add", 2, (), (1,)))

    def test_somewhat_beyond_the_bounds(self):
        keeper = Keeper(14, [(14,)] * 70)
        self.assert_refused(keeper, ("add", 70, (14, 13), (70,)), 0)
        self.assert_taken(keeper, ("add", 71, (14, 13), (70,)))


class Follows(Base):
    def test_what_does_not_follow(self):
        for step in WRONG:
            self.assert_refused(Keeper(2, FOUR), step, 0)

    def test_each_way_in_which_a_clause_follows(self):
        self.assert_taken(Keeper(2, FOUR), ("add", 5, (1, -1), (9, -9)))
        self.assert_taken(Keeper(2, FOUR), ("add", 5, (2,), (1, 2)))
        self.assert_taken(Keeper(2, [(1, 2), (-1, -2)]), ("add", 3, (1, 2), (-2,)))
        self.assert_refused(Keeper(2, [(1, 2), (-1, -2)]), ("add", 3, (1, 2), ()), 0)

    def test_groups_speak_of_what_was_added_and_dropped_too(self):
        keeper = Keeper(2, [(1, 2)])
        self.assert_taken(keeper, ("add", 2, (1,), ()))
        self.assert_refused(keeper, ("add", 3, (-2,), ()), 1)
        self.assert_refused(keeper, ("add", 3, (-2,), (-1,)), 1)
        self.assert_taken(keeper, ("add", 3, (-2,), (-1, 2)))
        self.assert_refused(keeper, ("add", 4, (2,), ()), 2)
        self.assert_taken(keeper, ("drop", (3,)), ("add", 4, (2,), ()))


class Drops(Base):
    def test_what_is_there_is_taken_out(self):
        keeper = Keeper(2, FOUR)
        self.assert_taken(keeper, ("drop", (2,)))
        self.assert_refused(keeper, ("add", 5, (2,), (1, 2)), 1)
        self.assert_taken(keeper, ("add", 5, (1,), (1, 3)))
        self.assert_taken(keeper, ("drop", (5,)))
        self.assert_refused(keeper, ("add", 6, (-2,), (5, 4)), 3)

    def test_some_at_once(self):
        keeper = Keeper(2, FOUR)
        self.assert_taken(keeper, ("drop", (1, 4)))
        for clause, number in (((1, 2), 1), ((-1, -2), 4)):
            self.assert_refused(keeper, ("add", 5, clause, (number,)), 1)
        self.assert_taken(keeper, ("add", 5, (-1, 2), (2,)), ("add", 6, (1, -2), (3,)))

    def test_what_is_not_there_is_passed_over(self):
        keeper = Keeper(2, FOUR)
        self.assert_taken(keeper, ("drop", (9, 2, 999999999)), ("drop", (2,)), ("drop", (3, 3)), ("drop", ()))
        self.assert_refused(keeper, ("add", 5, (2,), (1, 2)), 4)
        self.assert_refused(keeper, ("add", 5, (1, -2), (3,)), 4)
        self.assert_taken(keeper, ("add", 5, (1, 2), (1,)), ("add", 6, (-1, -2), (4,)))

    def test_one_of_two_clauses_that_are_the_same(self):
        keeper = Keeper(1, [(1,), (1,), (-1,)])
        self.assert_taken(keeper, ("drop", (1,)))
        self.assert_refused(keeper, ("add", 4, (), (1, 3)), 1)
        self.assert_taken(keeper, ("add", 4, (), (2, 3)))
        self.assertIs(keeper.refuted, True)

    def test_drops_alone_refute_nothing(self):
        self.assertIs(checked(2, FOUR, [("drop", (1, 2, 3, 4)), ("drop", ())]), False)
        self.assertIs(checked(1, [()], [("drop", (1,))]), False)

    def test_an_empty_clause_that_was_dropped_is_gone(self):
        keeper = Keeper(1, [()])
        self.assert_taken(keeper, ("drop", (1,)))
        self.assert_refused(keeper, ("add", 2, (), (1,)), 1)
        self.assertIs(keeper.refuted, False)


class Refuted(Base):
    def test_only_where_the_empty_clause_was_added(self):
        keeper = Keeper(2, FOUR)
        self.assertIs(keeper.refuted, False)
        keeper.take(STEPS[0])
        self.assertIs(keeper.refuted, False)
        keeper.take(STEPS[1])
        self.assertIs(keeper.refuted, True)

    def test_an_empty_clause_of_the_formula_is_not_added(self):
        for clauses in ([()], [(1,), ()], [(1,), (-1,), ()]):
            keeper = Keeper(1, clauses)
            self.assertIs(keeper.refuted, False)
            self.assert_refused(keeper, ("add", 1, (), (1,)), 0)
            self.assert_taken(keeper, ("add", 9, (-1,), (len(clauses),)))
            self.assertIs(keeper.refuted, False)
            self.assert_taken(keeper, ("add", 10, (), (len(clauses),)))
            self.assertIs(keeper.refuted, True)

    def test_whatever_comes_behind_is_taken_and_changes_nothing(self):
        keeper = Keeper(2, FOUR)
        self.assert_taken(keeper, *STEPS)
        more = (("add", 6, (), ()), ("add", 1, (99,), (-99, 99)), ("drop", (1, 2, 3, 4, 5, 6)), ("drop", ()))
        for step in WRONG + more:
            self.assert_taken(keeper, step)
            self.assertIs(keeper.refuted, True)

    def test_two_keepers_are_two(self):
        one, other = Keeper(2, FOUR), Keeper(2, FOUR)
        self.assert_taken(one, *STEPS)
        self.assertIs(other.refuted, False)
        self.assert_refused(other, STEPS[1], 0)
        self.assert_taken(other, ("drop", (1,)))
        self.assert_taken(Keeper(2, FOUR), *STEPS)


class Refusals(Base):
    def test_a_step_that_is_refused_changes_nothing(self):
        for step in WRONG:
            keeper = Keeper(2, FOUR)
            self.assert_refused(keeper, step, 0)
            self.assertIs(keeper.refuted, False)
            self.assert_refused(keeper, ("add", 5, (1,), (5, 3)), 0)
            self.assert_taken(keeper, *STEPS)
            self.assertIs(keeper.refuted, True)

    def test_a_great_number_that_is_refused_is_not_the_greatest(self):
        keeper = Keeper(2, FOUR)
        self.assert_refused(keeper, ("add", 50, (1,), ()), 0)
        self.assert_refused(keeper, ("add", 60, (3,), ()), 0)
        self.assert_taken(keeper, *STEPS)

    def test_the_clause_that_is_refused_is_not_in_the_table(self):
        keeper = Keeper(2, FOUR)
        self.assert_refused(keeper, ("add", 5, (2,), ()), 0)
        self.assert_refused(keeper, ("add", 6, (1,), (5, 3)), 0)
        self.assert_refused(keeper, ("add", 4, (2,), (1, 2)), 0)
        self.assert_taken(keeper, ("add", 6, (-1, -2), (4,)))

    def test_place_counts_the_steps_taken_ahead(self):
        keeper = Keeper(2, FOUR)
        wrong = ("add", 5, (), ())
        self.assert_refused(keeper, wrong, 0)
        self.assert_refused(keeper, wrong, 0)
        self.assert_taken(keeper, ("drop", ()))
        self.assert_refused(keeper, wrong, 1)
        self.assert_taken(keeper, ("drop", (77,)), ("add", 5, (2,), (1, 2)))
        self.assert_refused(keeper, wrong, 3)
        self.assert_refused(keeper, ("add", 7, (), ()), 3)
        self.assert_taken(keeper, ("add", 7, (1, -1), ()))
        self.assert_refused(keeper, ("add", 7, (), (5, 3, 4)), 4)
        self.assert_taken(keeper, ("add", 8, (), (5, 3, 4)))

    def test_taken_as_the_classes_above(self):
        for kind in (NotRight, ClauseError, ValueError):
            with self.assertRaises(kind):
                Keeper(2, FOUR).take(WRONG[0])
            with self.assertRaises(kind):
                checked(2, FOUR, [WRONG[0]])


class Checked(Base):
    def test_a_refutation(self):
        self.assertIs(checked(2, FOUR, STEPS), True)
        self.assertIs(checked(1, [(1,), (-1,)], [("add", 3, (), (1, 2))]), True)

    def test_right_steps_without_the_empty_clause(self):
        self.assertIs(checked(2, FOUR, STEPS[:1]), False)
        self.assertIs(checked(2, FOUR, [("add", 5, (1, -1), ()), ("drop", (5,))]), False)

    def test_no_steps(self):
        for variables, clauses in ((0, []), (2, FOUR), (0, [()]), (1, [(1,), ()]), (12, [])):
            self.assertIs(checked(variables, clauses, []), False)

    def test_a_formula_that_has_the_empty_clause(self):
        self.assertIs(checked(0, [()], [("add", 2, (), (1,))]), True)
        self.assertIs(checked(1, [(1,), ()], [("add", 3, (), (2,))]), True)
        self.assertEqual(refused_place(checked, 1, [(1,), ()], [("add", 3, (), (1,))]), 0)
        self.assertEqual(refused_place(checked, 1, [(1,), ()], [("add", 3, (), ())]), 0)

    def test_steps_behind_the_empty_clause(self):
        for step in WRONG:
            self.assertIs(checked(2, FOUR, STEPS + [step]), True)
        self.assertIs(checked(2, FOUR, STEPS + list(WRONG) + [("drop", (6, 5))]), True)

    def test_place_of_the_first_that_is_not_right(self):
        for step in WRONG:
            self.assertEqual(refused_place(checked, 2, FOUR, [step] + STEPS), 0)
            self.assertEqual(refused_place(checked, 2, FOUR, [("drop", ()), ("drop", (9,)), step, WRONG[0]]), 2)
        self.assertEqual(refused_place(checked, 2, FOUR, [STEPS[0], STEPS[0], STEPS[1]]), 1)
        self.assertEqual(refused_place(checked, 2, FOUR, [STEPS[1], STEPS[0]]), 0)

    def test_a_refutation_with_groups(self):
        # 5 and 6 make the variable 3, which is in no clause ahead of them, the opposite of 1.
        steps = [("add", 5, (3, 1), ()), ("add", 6, (-3, -1), (-5,)), ("add", 7, (3, 2), (5, 2)),
                 ("add", 8, (-3, 2), (6, 1)), ("add", 9, (2,), (7, 8)), ("add", 10, (), (9, 3, 4))]
        self.assertIs(checked(3, FOUR, steps), True)
        self.assertIs(checked(3, FOUR, steps[:-1]), False)
        self.assertEqual(refused_place(checked, 2, FOUR, steps), 0)
        for hints in ((), (-4,), (-5, 5), (-5, -5), (-1, -5), (5,)):
            self.assertEqual(refused_place(checked, 3, FOUR, steps[:1] + [("add", 6, (-3, -1), hints)] + steps[2:]), 1)
        self.assertEqual(refused_place(checked, 3, FOUR, steps[:1] + [("add", 6, (-1, -3), (-5,))] + steps[2:]), 1)


class Soundness(Base):
    def draw_step(self, chance, variables, number, numbers, clauses):
        """A step of which many are right."""
        if not chance.randrange(6):
            return ("drop", tuple(chance.choice(numbers) for place in range(chance.randrange(3))))
        clause = drawn(chance, variables, 1, chance.choice((0, 1, 1, 1, 2, 2)))[0]
        hints = [chance.choice(numbers) for place in range(chance.choice((0, 0, 1, 2, 3, 4)))]
        if clause and chance.randrange(4):
            for other, literals in clauses.items():
                if -clause[0] in literals:
                    hints += [-other] + [chance.choice(numbers) for place in range(chance.choice((0, 0, 1)))]
        return ("add", number, clause, tuple(hints))

    def test_no_steps_refute_a_formula_that_has_a_model(self):
        chance = random.Random(5)
        counts = {"with": 0, "without": 0, "refuted": 0}
        for formula in range(800):
            variables = chance.randrange(1, 4)
            clauses = drawn(chance, variables, chance.randrange(2, 8), 2)
            known = has_model(variables, clauses)
            keeper = Keeper(variables, clauses)
            table = dict(enumerate(clauses, start=1))
            for number in range(len(clauses) + 1, len(clauses) + 25):
                step = self.draw_step(chance, variables, number, list(range(1, number)), table)
                taken = refused_place(keeper.take, step) is None
                if step[0] == "drop":
                    table = {key: clause for key, clause in table.items() if key not in step[1]}
                elif taken:
                    table[number] = step[2]
                    counts["with" if known else "without"] += 1
                if known:
                    self.assertTrue(has_model(variables, table.values()), (clauses, step))
                    self.assertIs(keeper.refuted, False)
            counts["refuted"] += keeper.refuted
        self.assertGreater(counts["with"], 1000, counts)
        self.assertGreater(counts["refuted"], 50, counts)


class AsItWas(Base):
    def test_what_is_handed_in_is_as_it_was(self):
        clauses, steps = list(FOUR), STEPS + [("drop", (1, 2))]
        self.assertIs(checked(2, clauses, steps), True)
        keeper = Keeper(2, clauses)
        self.assert_taken(keeper, ("drop", (1,)), ("add", 5, (1, -1), ()))
        self.assertEqual(clauses, FOUR)
        self.assertEqual(steps, STEPS + [("drop", (1, 2))])
        refused_place(checked, 2, clauses, [("drop", (1, 2)), ("add", 5, (), ())])
        self.assertEqual(clauses, FOUR)

    def test_nothing_that_is_handed_in_is_kept(self):
        clauses = list(FOUR)
        keeper = Keeper(2, clauses)
        clauses[0] = (3,)
        clauses.append((9,))
        self.assert_taken(keeper, STEPS[0])
        clauses.clear()
        self.assert_taken(keeper, STEPS[1])
        self.assertIs(keeper.refuted, True)
        clauses.append(())
        self.assertIs(checked(2, FOUR, STEPS[:1]), False)
