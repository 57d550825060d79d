"""[5.1] to [5.5]: smaller formulas."""

import itertools
import random
import unittest

from clausekeep.clauses import satisfied
from clausekeep.reducing import implied, lifted, reduced, tidy, when_true
from clausekeep.searching import solved
from tests.helpers import WITH, WITHOUT, drawn, drawn_wide, every_sign, has_model, models_of

CLAUSES_OF_TWO = [clause for size in range(4) for clause in itertools.product((1, -1, 2, -2), repeat=size)]


def tidy_by(clauses):
    """What is tidy, by another way of telling: one clause for each set of literals, and none above another."""
    first = {}
    for clause in clauses:
        literals = frozenset(clause)
        if not literals & {-literal for literal in literals}:
            first.setdefault(literals, tuple(dict.fromkeys(clause)))
    return [clause for literals, clause in first.items() if not any(other < literals for other in first)]


def reduced_by(clauses):
    """What is left and kept, by another way of telling."""
    left, kept = tidy_by(clauses), []
    while () not in left:
        singles = [clause for clause in left if len(clause) == 1]
        literals = set(itertools.chain.from_iterable(left))
        lone = sorted((literal for literal in literals if -literal not in literals), key=abs)
        if not singles and not lone:
            break
        kept.append(singles[0][0] if singles else lone[0])
        left = tidy_by([tuple(literal for literal in clause if literal != -kept[-1])
                        for clause in left if kept[-1] not in clause])
    return left, kept


def some_clauses(chance, variables, most):
    """Clauses by chance, without the empty one more often than not."""
    clauses = drawn(chance, variables, chance.randrange(most), 4)
    return [clause for clause in clauses if clause] if chance.randrange(5) else clauses


class Base(unittest.TestCase):
    def assert_clauses(self, answer, wanted):
        self.assertIs(type(answer), list)
        self.assertEqual(answer, wanted)
        self.assertTrue(all(type(clause) is tuple for clause in answer), answer)
        self.assertTrue(all(type(literal) is int for clause in answer for literal in clause), answer)


class Tidy(Base):
    def assert_tidy(self, clauses, wanted):
        before = list(clauses)
        self.assert_clauses(tidy(clauses), wanted)
        self.assertEqual(clauses, before)
        self.assert_clauses(tidy(wanted), wanted)

    def test_no_clauses(self):
        self.assert_tidy([], [])

    def test_nothing_to_do(self):
        for clauses in ([(1,)], [(1, 2), (-1, 2), (1, -2)], [(3, 1), (2,), (-3, -1)], [(2, 1), (1, 3), (3, 2)]):
            self.assert_tidy(clauses, clauses)

    def test_literals_twice(self):
        self.assert_tidy([(1, 1)], [(1,)])
        self.assert_tidy([(3, 1, 3, 2, 1, 3)], [(3, 1, 2)])
        self.assert_tidy([(-2, 1, -2), (2, 2, 3)], [(-2, 1), (2, 3)])

    def test_opposites(self):
        for clause in ((1, -1), (-1, 1), (2, 1, -2), (1, 2, 3, -1), (1, 1, -1, -1)):
            self.assert_tidy([clause], [])
            self.assert_tidy([(2, 3), clause, (-4,)], [(2, 3), (-4,)])

    def test_clauses_that_are_the_same(self):
        self.assert_tidy([(1, 2), (1, 2)], [(1, 2)])
        self.assert_tidy([(3,), (1, 2), (3,), (1, 2), (3,)], [(3,), (1, 2)])

    def test_the_same_literals_in_another_order(self):
        self.assert_tidy([(1, 2), (2, 1)], [(1, 2)])
        self.assert_tidy([(2, 1), (1, 2)], [(2, 1)])
        self.assert_tidy([(3, -1, 2), (4, 5), (2, 3, -1), (-1, 2, 3)], [(3, -1, 2), (4, 5)])

    def test_the_same_literals_with_some_twice(self):
        self.assert_tidy([(1, 2, 1), (1, 2)], [(1, 2)])
        self.assert_tidy([(2, 1, 2, 1, 2), (1, 2)], [(2, 1)])
        self.assert_tidy([(1, 2), (2, 1, 1)], [(1, 2)])
        self.assert_tidy([(1, 1), (1,), (1, 1, 1)], [(1,)])

    def test_covered_by_one_ahead(self):
        self.assert_tidy([(1,), (1, 2)], [(1,)])
        self.assert_tidy([(1, 3), (4,), (3, 2, 1)], [(1, 3), (4,)])

    def test_covered_by_one_behind(self):
        self.assert_tidy([(1, 2), (1,)], [(1,)])
        self.assert_tidy([(3, 2, 1), (4,), (1, 3)], [(4,), (1, 3)])

    def test_covered_by_one_that_is_longer_until_its_literals_are_there_once(self):
        self.assert_tidy([(1, 2), (1, 1, 1)], [(1,)])
        self.assert_tidy([(2, 2, 2, 2), (1, 2, 3)], [(2,)])
        self.assert_tidy([(1, 2, 3), (3, 1, 3, 1)], [(3, 1)])

    def test_a_row_of_covers(self):
        self.assert_tidy([(1, 2, 3), (1, 2), (1,)], [(1,)])
        self.assert_tidy([(1,), (1, 2), (1, 2, 3)], [(1,)])
        self.assert_tidy([(1, 2), (1, 2, 3), (2,), (3, 1)], [(2,), (3, 1)])

    def test_opposites_are_not_covered(self):
        self.assert_tidy([(1,), (-1, 2)], [(1,), (-1, 2)])
        self.assert_tidy([(-1, 2), (1, 2, 3)], [(-1, 2), (1, 2, 3)])
        self.assert_tidy([(1,), (-1,)], [(1,), (-1,)])

    def test_a_clause_that_goes_for_its_opposites_covers_nothing_that_stays(self):
        self.assert_tidy([(1, -1), (1, 2), (-1, 3), (1, -1, 2)], [(1, 2), (-1, 3)])

    def test_the_empty_clause(self):
        self.assert_tidy([()], [()])
        self.assert_tidy([(), ()], [()])
        self.assert_tidy([(1, 2), (), (3,), (1, -1), ()], [()])
        self.assert_tidy([(), (1,)], [()])
        self.assert_tidy([(1,), ()], [()])

    def test_all_pairs_of_short_clauses(self):
        for clauses in itertools.product(CLAUSES_OF_TWO, repeat=2):
            self.assert_clauses(tidy(list(clauses)), tidy_by(clauses))

    def test_clauses_by_chance(self):
        chance = random.Random(21)
        for number in range(1500):
            clauses = some_clauses(chance, chance.randrange(1, 5), 15)
            self.assert_tidy(clauses, tidy_by(clauses))

    def test_the_models_stay(self):
        chance = random.Random(22)
        for number in range(300):
            clauses = some_clauses(chance, 4, 10)
            self.assertEqual(models_of(4, tidy(clauses)), models_of(4, clauses))

    def test_somewhat_beyond_the_bounds(self):
        clauses = drawn_wide(5, 14, 40) + drawn_wide(6, 4, 40)
        self.assert_tidy(clauses, tidy_by(clauses))


class WhenTrue(Base):
    def assert_when(self, clauses, literal, wanted):
        before = list(clauses)
        self.assert_clauses(when_true(clauses, literal), wanted)
        self.assertEqual(clauses, before)

    def test_no_clauses(self):
        self.assert_when([], 1, [])
        self.assert_when([], -1, [])

    def test_with_the_literal(self):
        self.assert_when([(1, 2)], 1, [])
        self.assert_when([(2, 1), (1,), (1, 1, 3)], 1, [])
        self.assert_when([(2, -1), (-1,)], -1, [])

    def test_with_its_opposite(self):
        self.assert_when([(-1, 2)], 1, [(2,)])
        self.assert_when([(2, 1, 3)], -1, [(2, 3)])
        self.assert_when([(-1,)], 1, [()])
        self.assert_when([(1,)], -1, [()])

    def test_with_both(self):
        self.assert_when([(1, -1)], 1, [])
        self.assert_when([(-1, 2, 1)], 1, [])
        self.assert_when([(1, -1)], -1, [])

    def test_with_neither(self):
        self.assert_when([(2, 3)], 1, [(2, 3)])
        self.assert_when([(2, 3), (), (-3,)], -1, [(2, 3), (), (-3,)])
        self.assert_when([(11, -12)], 1, [(11, -12)])

    def test_with_the_opposite_twice(self):
        self.assert_when([(-1, 2, -1)], 1, [(2,)])
        self.assert_when([(1, 1)], -1, [()])
        self.assert_when([(3, 1, 1, 2, 1)], -1, [(3, 2)])

    def test_all_at_once_in_their_order(self):
        clauses = [(2, -1), (1, 3), (3, 4), (-1,), (-1, 1), (4, -1, -1, 3), (1,), (2,)]
        self.assert_when(clauses, 1, [(2,), (3, 4), (), (4, 3), (2,)])
        self.assert_when(clauses, -1, [(3,), (3, 4), (), (2,)])

    def test_what_is_told_is_not_made_tidy(self):
        clauses = [(2, 2, 3), (2, -2), (3, 2), (3, 2), (2,), (-1, 3, 3)]
        self.assert_when(clauses, 1, clauses[:-1] + [(3, 3)])

    def test_by_a_look_at_all_truths(self):
        chance = random.Random(23)
        for number in range(400):
            clauses = some_clauses(chance, 4, 9)
            literal = chance.choice((1, -1, 2, -2, 3, -3, 4, -4))
            answer = when_true(clauses, literal)
            self.assertFalse({literal, -literal} & set(itertools.chain.from_iterable(answer)))
            self.assertEqual([model for model in models_of(4, answer) if literal in model],
                             [model for model in models_of(4, clauses) if literal in model])


class Reduced(Base):
    def assert_reduced(self, clauses, left, kept):
        before = list(clauses)
        answer = reduced(clauses)
        self.assertIs(type(answer), tuple)
        self.assertEqual(len(answer), 2)
        self.assert_clauses(answer[0], left)
        self.assertIs(type(answer[1]), list)
        self.assertEqual(answer[1], kept, clauses)
        self.assertTrue(all(type(literal) is int for literal in answer[1]))
        self.assertEqual(clauses, before)

    def test_no_clauses(self):
        self.assert_reduced([], [], [])

    def test_nothing_is_next(self):
        for clauses in ([(1, 2), (-1, -2)], [(1, 2), (-1, 2), (1, -2), (-1, -2)], every_sign((1, 2, 3)),
                        [(1, 2, 3), (-3, -2), (-1, -2, 3)]):
            self.assert_reduced(clauses, clauses, [])

    def test_the_clauses_are_tidy_though_nothing_is_next(self):
        self.assert_reduced([(1, 2, 1), (-1, -2), (3, -3), (2, 1), (-2, -1, -2)], [(1, 2), (-1, -2)], [])
        self.assert_reduced([(1, -1), (2, 3, -2)], [], [])

    def test_a_clause_of_one(self):
        self.assert_reduced([(1,)], [], [1])
        self.assert_reduced([(-7,)], [], [-7])
        self.assert_reduced([(4, 4)], [], [4])

    def test_a_clause_of_one_that_is_not_the_first_clause(self):
        self.assert_reduced([(1, 2), (-1, -2), (3,), (-3, 1, 2)], [(1, 2), (-1, -2)], [3])
        self.assert_reduced([(1, 2), (-1, 2), (1, -2), (-1,)], [()], [-1, 2])

    def test_a_clause_of_one_comes_ahead_of_a_literal_without_opposite(self):
        self.assert_reduced([(1, 2), (-2, 3), (5,)], [], [5, 1, -2])
        self.assert_reduced([(1, 2), (5, 5)], [], [5, 1])

    def test_more_than_one_clause_of_one(self):
        self.assert_reduced([(3,), (1,), (2,)], [], [3, 1, 2])
        self.assert_reduced([(-2,), (3,), (-1,)], [], [-2, 3, -1])
        self.assert_reduced([(4, 5), (3,), (-4, -5), (1,)], [(4, 5), (-4, -5)], [3, 1])

    def test_clauses_that_become_one(self):
        self.assert_reduced([(3, -2), (2, -1), (1,)], [], [1, 2, 3])
        self.assert_reduced([(-1, 2), (1,), (-1, 3), (-2, -3, 4)], [], [1, 2, 3, 4])

    def test_the_first_one_in_the_list_at_each_time(self):
        self.assert_reduced([(-2, 1), (5,), (2,), (-5, 4)], [], [5, 2, 1, 4])

    def test_literals_whose_opposites_are_not_there(self):
        self.assert_reduced([(2, 1)], [], [1])
        self.assert_reduced([(3, -2)], [], [-2])
        self.assert_reduced([(4, 5), (-4, -3), (3, 5)], [], [5, -3])

    def test_of_these_that_of_the_least_variable(self):
        clauses = [(5, 2), (-2, 5), (3, 4, -2), (-3, 4, 2), (2, 3), (-2, -3)]
        self.assert_reduced(clauses, [(2, 3), (-2, -3)], [4, 5])
        clauses = [(5, -2), (-2, 3), (3, -5)]
        self.assert_reduced(clauses, [], [-2, 3])
        self.assert_reduced([(-9, 10), (-4, 10), (9, 4, -6), (6, 9)], [], [10, 4, 6])

    def test_the_sign_does_not_count_for_the_least(self):
        self.assert_reduced([(2, -3), (3, -2), (-4, 1), (5, 4)], [(2, -3), (3, -2)], [1, 4])
        self.assert_reduced([(2, -3), (3, -2), (4, -1), (-5, -4)], [(2, -3), (3, -2)], [-1, -4])
        self.assert_reduced([(-3, 2)], [], [2])
        self.assert_reduced([(3, -2)], [], [-2])

    def test_a_clause_that_becomes_empty(self):
        self.assert_reduced([(1,), (-1,)], [()], [1])
        self.assert_reduced([(-1,), (1,)], [()], [-1])
        self.assert_reduced([(2,), (1, 3), (-2,), (4,)], [()], [2])
        self.assert_reduced([(1, 2), (-1, 2), (1, -2), (-1, -2), (2,)], [()], [2, 1])

    def test_a_clause_that_is_empty_at_first(self):
        self.assert_reduced([()], [()], [])
        self.assert_reduced([(1,), (), (2, 3)], [()], [])
        self.assert_reduced([(), ()], [()], [])

    def test_an_empty_clause_stops_all(self):
        self.assert_reduced([(3,), (-3,), (1,), (5, 6)], [()], [3])

    def test_no_literal_is_kept_that_is_gone(self):
        # With 1 true the variable 2 is gone, and it is not kept.
        self.assert_reduced([(1,), (1, 2), (2, 1)], [], [1])
        self.assert_reduced([(2, 1), (1,), (-2, 1)], [], [1])

    def test_what_tidy_takes_out_makes_literals_next(self):
        # -1 is in a clause alone that is covered, so only 1 is there.
        self.assert_reduced([(1, 2), (-2, 3), (3, -2, -1), (-3, 2)], [(-2, 3), (-3, 2)], [1])
        self.assert_reduced([(1, 2), (-1, 1), (-2, 3), (-3, 2)], [(-2, 3), (-3, 2)], [1])

    def test_nothing_is_next_at_the_end(self):
        chance = random.Random(24)
        for number in range(500):
            left, kept = reduced(some_clauses(chance, 5, 18))
            if () in left:
                self.assertEqual(left, [()])
                continue
            literals = set(itertools.chain.from_iterable(left))
            self.assertEqual({-literal for literal in literals}, literals)
            self.assertTrue(all(len(clause) > 1 for clause in left))
            self.assertFalse(literals & set(kept))
            self.assertEqual(len({abs(literal) for literal in kept}), len(kept))

    def test_clauses_by_chance(self):
        chance = random.Random(25)
        some = 0
        for number in range(1500):
            clauses = some_clauses(chance, chance.randrange(1, 6), 18)
            left, kept = reduced_by(clauses)
            some += len(left) > 1 and len(kept) > 0
            self.assert_reduced(clauses, left, kept)
        self.assertGreater(some, 30)

    def test_all_pairs_of_short_clauses(self):
        for clauses in itertools.product(CLAUSES_OF_TWO, repeat=2):
            self.assert_reduced(list(clauses), *reduced_by(clauses))

    def test_wide_formulas(self):
        for seed in range(20):
            clauses = drawn_wide(seed, 12, 10 + 3 * seed)
            self.assert_reduced(clauses, *reduced_by(clauses))
        clauses = drawn_wide(3, 14, 70)
        self.assert_reduced(clauses, *reduced_by(clauses))


class Lifted(Base):
    def assert_lifted(self, variables, literals, model, wanted):
        before = list(literals)
        answer = lifted(variables, literals, model)
        self.assertIs(type(answer), tuple)
        self.assertEqual(answer, wanted)
        self.assertTrue(all(type(literal) is int for literal in answer))
        self.assertEqual(literals, before)

    def test_nothing_at_all(self):
        self.assert_lifted(0, [], (), ())

    def test_variables_that_neither_tells_are_false(self):
        self.assert_lifted(3, [], (), (-1, -2, -3))
        self.assert_lifted(3, [2], (), (-1, 2, -3))
        self.assert_lifted(3, [], (3,), (-1, -2, 3))
        self.assert_lifted(5, [4], (-2,), (-1, -2, -3, 4, -5))

    def test_what_was_kept_is_true(self):
        self.assert_lifted(2, [1, 2], (), (1, 2))
        self.assert_lifted(2, [-2, 1], (), (1, -2))
        self.assert_lifted(3, [3, -1, 2], (), (-1, 2, 3))

    def test_what_the_model_says(self):
        self.assert_lifted(3, [], (1, -2, 3), (1, -2, 3))
        self.assert_lifted(3, [], (3, 1, -2), (1, -2, 3))
        self.assert_lifted(4, [2], (4, 1), (1, 2, -3, 4))
        self.assert_lifted(4, [2], (1, 4), (1, 2, -3, 4))

    def test_a_literal_kept_that_the_model_tells_otherwise(self):
        self.assert_lifted(1, [1], (-1,), (1,))
        self.assert_lifted(1, [-1], (1,), (-1,))
        self.assert_lifted(4, [3, -2], (1, 2, -3, 4), (1, -2, 3, 4))
        self.assert_lifted(4, [3, -2], (4, -3, 2), (-1, -2, 3, 4))

    def test_a_literal_kept_that_the_model_tells_too(self):
        self.assert_lifted(3, [2], (-1, 2, 3), (-1, 2, 3))

    def test_up_to_the_bounds_and_somewhat_beyond(self):
        for variables in (12, 14):
            kept = [-variable for variable in range(variables, 0, -2)]
            model = tuple(range(1, variables + 1))
            self.assert_lifted(variables, kept, model, tuple(
                variable if variable % 2 else -variable for variable in range(1, variables + 1)))

    def assert_all_lifted(self, chance, variables, clauses):
        """Whatever model of what is left is lifted, and however it is told, is a model of the formula."""
        left, kept = reduced(clauses)
        there = sorted({abs(literal) for clause in left for literal in clause})
        rows = itertools.product(*[(-variable, variable) for variable in there])
        models = [row for row in rows if all(set(clause) & set(row) for clause in left)]
        self.assertEqual(bool(models), has_model(variables, clauses), clauses)
        for model in chance.sample(models, min(5, len(models))):
            mixed = tuple(chance.sample(model, len(model)))
            rest = [variable for variable in range(1, variables + 1) if variable not in there]
            more = tuple(chance.choice((1, -1)) * variable for variable in rest)
            for form in (model, mixed, mixed + more, more + mixed):
                answer = lifted(variables, kept, form)
                self.assertEqual([abs(literal) for literal in answer], list(range(1, variables + 1)))
                self.assertTrue(all(set(clause) & set(answer) for clause in clauses), (clauses, form))
                self.assertTrue(satisfied(clauses, answer))
                self.assertTrue(set(kept) <= set(answer))
                self.assertTrue(set(model) <= set(answer))

    def test_small_formulas_by_a_look_at_all_truths(self):
        chance = random.Random(26)
        counts = {True: 0, False: 0}
        for number in range(1000):
            variables = chance.randrange(1, 6)
            clauses = some_clauses(chance, variables, 16)
            counts[has_model(variables, clauses)] += 1
            self.assert_all_lifted(chance, variables, clauses)
        self.assertGreater(min(counts.values()), 200)

    def test_all_pairs_of_short_clauses(self):
        chance = random.Random(27)
        for clauses in itertools.combinations(CLAUSES_OF_TWO, 2):
            self.assert_all_lifted(chance, 2, list(clauses))

    def test_known_formulas(self):
        for name, (variables, clauses) in itertools.chain(WITH.items(), WITHOUT.items()):
            left, kept = reduced(clauses)
            model = solved(variables, left)[0]
            with self.subTest(name):
                self.assertEqual(model is None, solved(variables, clauses)[0] is None)
                if model is not None:
                    self.assertTrue(satisfied(clauses, lifted(variables, kept, model)))


class Implied(Base):
    def assert_implied(self, clauses, clause, variables, wanted):
        before = list(clauses)
        self.assertIs(implied(clauses, clause, variables), wanted, (clauses, clause, variables))
        self.assertEqual(clauses, before)

    def test_clauses_that_are_implied(self):
        self.assert_implied([(1,)], (1,), 1, True)
        self.assert_implied([(1,)], (2, 1), 2, True)
        self.assert_implied([(1, 2), (-1, 2)], (2,), 2, True)
        self.assert_implied([(-1, 2), (-2, 3)], (3, -1), 3, True)
        self.assert_implied([(1, 2), (-1, 2), (1, -2)], (1,), 2, True)

    def test_clauses_that_are_not(self):
        self.assert_implied([(1,)], (-1,), 1, False)
        self.assert_implied([(1,)], (2,), 2, False)
        self.assert_implied([(1, 2)], (1,), 2, False)
        self.assert_implied([(1, 2)], (-1, -2), 2, False)
        self.assert_implied([(-1, 2), (-2, 3)], (1, -3), 3, False)
        self.assert_implied([(1, 2), (-1, 2), (1, -2)], (-1, -2), 2, False)

    def test_no_clauses(self):
        self.assert_implied([], (1,), 1, False)
        self.assert_implied([], (-1, 2), 12, False)
        self.assert_implied([], (1, -1), 1, True)

    def test_the_empty_clause(self):
        self.assert_implied([], (), 0, False)
        self.assert_implied([], (), 12, False)
        self.assert_implied([(1,)], (), 1, False)
        self.assert_implied([()], (), 0, True)
        self.assert_implied([(1,), (-1,)], (), 1, True)

    def test_a_clause_with_opposites(self):
        for clauses in ([], [(1, 2)], [(-1,)], [()]):
            self.assert_implied(clauses, (1, -1), 2, True)
            self.assert_implied(clauses, (2, 1, -2), 2, True)

    def test_a_clause_with_literals_twice(self):
        self.assert_implied([(1,)], (1, 1), 1, True)
        self.assert_implied([(1, 2)], (1, 1), 2, False)
        self.assert_implied([(1, 1)], (2, 1, 2), 2, True)

    def test_a_formula_without_a_model(self):
        for clauses in ([()], [(1,), (-1,)], every_sign((1, 2))):
            for clause in ((), (1,), (-1,), (2,), (-2, 1), (1, -1)):
                self.assert_implied(clauses, clause, 2, True)
        for name, (variables, clauses) in WITHOUT.items():
            self.assert_implied(clauses, (), variables, True)
            if variables:
                self.assert_implied(clauses, (1,), variables, True)
                self.assert_implied(clauses, (-variables,), variables, True)

    def test_formulas_with_a_model(self):
        for name, (variables, clauses) in WITH.items():
            self.assert_implied(clauses, (), variables, False)
            for clause in clauses:
                self.assert_implied(clauses, clause, variables, True)
            self.assert_implied(clauses, tuple(-literal for literal in solved(variables, clauses)[0]), variables, False)

    def test_all_small_ones_by_a_look_at_all_truths(self):
        for clauses in itertools.combinations(CLAUSES_OF_TWO[:21], 2):
            models = models_of(2, clauses)
            for clause in CLAUSES_OF_TWO[:21]:
                wanted = all(set(clause) & set(model) for model in models)
                self.assert_implied(list(clauses), clause, 2, wanted)

    def test_formulas_by_chance(self):
        chance = random.Random(28)
        counts = {True: 0, False: 0}
        for number in range(1500):
            variables = chance.randrange(1, 6)
            clauses = some_clauses(chance, variables, 10)
            clause = drawn(chance, variables, 1, chance.randrange(4))[0]
            wanted = all(set(clause) & set(model) for model in models_of(variables, clauses))
            counts[wanted] += 1
            self.assert_implied(clauses, clause, variables, wanted)
        self.assertGreater(min(counts.values()), 300)

    def test_wide_formulas_by_chance(self):
        chance = random.Random(29)
        for seed in range(10):
            clauses = drawn_wide(seed, 12, 50)
            models = models_of(12, clauses)
            for clause in drawn_wide(seed + 100, 12, 10) + [(chance.choice((1, -1)) * 5,), ()]:
                self.assert_implied(clauses, clause, 12, all(set(clause) & set(model) for model in models))


class NothingKept(Base):
    def test_what_is_done_afterwards_changes_nothing_that_was_told(self):
        first = [(1, 2), (-1, -2), (3,), (4, 5)]
        for act in (tidy, lambda clauses: when_true(clauses, 9), reduced):
            clauses = list(first)
            answer = act(clauses)
            told = repr(answer)
            clauses.clear()
            self.assertEqual(repr(answer), told)
            clauses.extend(first)
            self.assertEqual(repr(act(clauses)), told)

    def test_what_is_done_to_the_answer_does_not_change_what_was_handed_in(self):
        first = [(1, 2), (-1, -2)]
        clauses = list(first)
        for answer in (tidy(clauses), when_true(clauses, 3), reduced(clauses)[0]):
            self.assertEqual(answer, first)
            answer.append((9,))
            self.assertEqual(clauses, first)
        for answer in (tidy([]), when_true([], 1), reduced([])[0], reduced([])[1]):
            answer.append(7)
        self.assertEqual((tidy([]), when_true([], 1), reduced([])), ([], [], ([], [])))

    def test_the_same_list_again(self):
        clauses = [(1, 2), (-1, 2)]
        self.assertIs(implied(clauses, (2,), 2), True)
        clauses.pop()
        self.assertIs(implied(clauses, (2,), 2), False)
        literals = [1]
        self.assertEqual(lifted(2, literals, ()), (1, -2))
        literals.append(2)
        self.assertEqual(lifted(2, literals, ()), (1, 2))
