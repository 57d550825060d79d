"""[3.1] and [3.2]: models and refutations; [0.2]: what is told as one is one."""

import itertools
import random
import unittest

from clausekeep.checking import checked
from clausekeep.clauses import satisfied
from clausekeep.searching import all_models, solved
from tests.helpers import WITH, WITHOUT, drawn, drawn_wide, every_sign, has_model, models_of

CLAUSES_OF_TWO = [clause for size in range(3) for clause in itertools.product((1, -1, 2, -2), repeat=size)]


class Base(unittest.TestCase):
    def assert_solved(self, variables, clauses, wanted):
        """Whether a formula has a model or not is wanted; the answer is held against all that [3.1] says."""
        answer = solved(variables, clauses)
        self.assertIs(type(answer), tuple)
        self.assertEqual(len(answer), 2)
        model, steps = answer
        self.assertIs(type(steps), list)
        self.assertIs(model is not None, wanted, (variables, clauses))
        if wanted:
            self.assertEqual(steps, [])
            self.assert_model(variables, clauses, model)
        else:
            self.assert_refutation(variables, clauses, steps)

    def assert_model(self, variables, clauses, model):
        self.assertIs(type(model), tuple)
        self.assertTrue(all(type(literal) is int for literal in model))
        self.assertEqual([abs(literal) for literal in model], list(range(1, variables + 1)))
        self.assertTrue(all(set(clause) & set(model) for clause in clauses), (variables, clauses, model))
        self.assertIs(satisfied(clauses, model), True)

    def assert_refutation(self, variables, clauses, steps):
        for step in steps:
            self.assertEqual([type(part) for part in step], [str, int, tuple, tuple], step)
            self.assertEqual(step[0], "add")
            self.assertTrue(all(type(number) is int for number in step[2] + step[3]))
            self.assertTrue(all(hint > 0 for hint in step[3]), step)
        self.assertEqual([step for step in steps if step[2] == ()], steps[-1:])
        self.assertEqual(len(steps[-1:]), 1)
        self.assertIs(checked(variables, clauses, steps), True)
        self.assertIs(checked(variables, clauses, steps[:-1]), False)


class Solved(Base):
    def test_without_a_model(self):
        for name, (variables, clauses) in WITHOUT.items():
            with self.subTest(name):
                self.assert_solved(variables, clauses, False)

    def test_with_a_model(self):
        for name, (variables, clauses) in WITH.items():
            with self.subTest(name):
                self.assert_solved(variables, clauses, True)

    def test_the_one_model_that_there_is(self):
        for model in itertools.product((1, -1), (2, -2), (3, -3), (4, -4)):
            clauses = [clause for clause in every_sign((1, 2, 3, 4)) if set(clause) & set(model)]
            self.assertEqual(solved(4, clauses), (model, []))
            self.assertEqual(solved(4, [(literal,) for literal in reversed(model)]), (model, []))

    def test_all_pairs_and_triples_of_short_clauses(self):
        for size in (1, 2, 3):
            for clauses in itertools.combinations(CLAUSES_OF_TWO, size):
                self.assert_solved(2, list(clauses), has_model(2, clauses))

    def test_small_formulas_by_chance(self):
        chance = random.Random(7)
        counts = {True: 0, False: 0}
        for number in range(1500):
            variables = chance.randrange(6)
            clauses = drawn(chance, variables, chance.randrange(12), 4)
            if chance.randrange(4):
                clauses = [clause for clause in clauses if clause]
            wanted = has_model(variables, clauses)
            counts[wanted] += 1
            self.assert_solved(variables, clauses, wanted)
        self.assertGreater(min(counts.values()), 300)

    def test_wide_formulas_by_chance(self):
        counts = {True: 0, False: 0}
        for seed in range(40):
            clauses = drawn_wide(seed, 12, 60)
            wanted = has_model(12, clauses)
            counts[wanted] += 1
            self.assert_solved(12, clauses, wanted)
        self.assertGreater(min(counts.values()), 5, counts)

    def test_somewhat_wider_formulas_by_chance(self):
        for seed in range(20):
            clauses = drawn_wide(seed, 15, 75)
            self.assert_solved(15, clauses, bool(all_models(15, clauses, 1)))

    def test_the_order_of_clauses_does_not_count(self):
        chance = random.Random(8)
        for name, (variables, clauses) in WITHOUT.items():
            for number in range(3):
                self.assert_solved(variables, chance.sample(clauses, len(clauses)), False)

    def test_the_same_answer_each_time(self):
        for variables, clauses in itertools.chain(WITH.values(), WITHOUT.values()):
            self.assertTrue(solved(variables, clauses) == solved(variables, list(clauses)))

    def test_what_is_handed_in_is_as_it_was(self):
        for variables, clauses in itertools.chain(WITH.values(), WITHOUT.values()):
            before = list(clauses)
            solved(variables, clauses)
            self.assertTrue(clauses == before)

    def test_nothing_is_kept(self):
        clauses = [(1, 2), (-1, 2), (1, -2), (-1, -2)]
        steps = solved(2, clauses)[1]
        told = list(steps)
        clauses.pop()
        self.assertEqual(steps, told)
        model, none = solved(2, clauses)
        self.assertEqual((model, none), ((1, 2), []))
        none.append(7)
        steps.clear()
        self.assertEqual(solved(2, clauses), ((1, 2), []))
        clauses.append((-1, -2))
        self.assertEqual(solved(2, clauses), (None, told))


class AllModels(Base):
    def assert_models(self, variables, clauses, mosts=None):
        wanted = models_of(variables, clauses)
        for most in mosts or (1, 2, len(wanted) - 1, len(wanted), len(wanted) + 1, 5000):
            if most >= 1:
                # assertEqual would take long to show where two long lists differ.
                self.assertTrue(all_models(variables, clauses, most) == wanted[:most], (variables, clauses, most))

    def test_the_order_without_clauses(self):
        self.assertEqual(all_models(2, [], 4), [(-1, -2), (-1, 2), (1, -2), (1, 2)])
        self.assertEqual(all_models(1, [], 2), [(-1,), (1,)])
        for variables in range(7):
            self.assert_models(variables, [])

    def test_the_order_with_clauses(self):
        self.assertEqual(all_models(3, [(1, 2, 3), (-3, -1)], 9), [
            (-1, -2, 3), (-1, 2, -3), (-1, 2, 3), (1, -2, -3), (1, 2, -3)])
        self.assertEqual(all_models(3, [(3, 1), (-2,)], 9), [(-1, -2, 3), (1, -2, -3), (1, -2, 3)])

    def test_so_many_at_most(self):
        clauses = [(1, 2, 3), (-3, -1)]
        for most in range(1, 9):
            self.assertEqual(len(all_models(3, clauses, most)), min(most, 5))
            self.assertEqual(all_models(3, clauses, most), all_models(3, clauses, 9)[:most])
        self.assertEqual(len(all_models(3, clauses, 10 ** 12)), 5)

    def test_no_variables(self):
        for most in (1, 2, 100):
            self.assertEqual(all_models(0, [], most), [()])
            self.assertEqual(all_models(0, [()], most), [])

    def test_no_model(self):
        for name, (variables, clauses) in WITHOUT.items():
            for most in (1, 7):
                self.assertEqual(all_models(variables, clauses, most), [], name)

    def test_with_a_model(self):
        for name, (variables, clauses) in WITH.items():
            if variables <= 12:
                self.assert_models(variables, clauses)

    def test_kinds(self):
        answer = all_models(2, [(1, 2)], 5)
        self.assertIs(type(answer), list)
        self.assertEqual([type(model) for model in answer], [tuple] * 3)
        for model in answer:
            self.assertEqual([type(literal) for literal in model], [int, int])
        self.assertIs(type(all_models(1, [()], 5)), list)

    def test_all_pairs_of_short_clauses(self):
        for clauses in itertools.product(CLAUSES_OF_TWO, repeat=2):
            self.assert_models(2, list(clauses), (1, 2, 3, 4, 5))

    def test_formulas_by_chance(self):
        chance = random.Random(9)
        for number in range(500):
            variables = chance.randrange(6)
            self.assert_models(variables, drawn(chance, variables, chance.randrange(8), 4))

    def test_wide_formulas_by_chance(self):
        for seed in range(10):
            self.assert_models(12, drawn_wide(seed, 12, 10 + 5 * seed))

    def test_few_of_very_many(self):
        self.assertEqual(all_models(40, [], 1), [tuple(range(-1, -41, -1))])
        self.assertEqual(all_models(40, [], 2)[1], tuple(range(-1, -40, -1)) + (40,))

    def test_what_is_handed_in_is_as_it_was(self):
        for clauses in ([], [()], [(1, 2), (-1, -1, 3), (2, -2)]):
            before = list(clauses)
            all_models(3, clauses, 100)
            self.assertEqual(clauses, before)

    def test_nothing_is_kept(self):
        clauses = [(1, 2)]
        models = all_models(2, clauses, 9)
        told = list(models)
        clauses.append((-1,))
        self.assertEqual(models, told)
        models.clear()
        self.assertEqual(all_models(2, clauses, 9), [(-1, 2)])
        clauses.pop()
        self.assertEqual(all_models(2, clauses, 9), told)
