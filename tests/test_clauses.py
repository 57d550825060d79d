"""[2.1], the first case of [2.2], and satisfied."""

import itertools
import unittest

from clausekeep.clauses import has_both, opened, satisfied

LITERALS = (1, -1, 2, -2, 3, -3)


def clauses_up_to(length):
    for size in range(length + 1):
        yield from itertools.product(LITERALS, repeat=size)


def all_truths():
    for kinds in itertools.product((None, 1, -1), repeat=3):
        yield {place + 1: (place + 1) * kind for place, kind in enumerate(kinds) if kind is not None}


class Opened(unittest.TestCase):
    def test_all_are_open_without_truths(self):
        self.assertEqual(opened({}, (3, -1, 2)), [3, -1, 2])

    def test_true_ones_stay(self):
        self.assertEqual(opened({1: 1, 2: -2}, (1, -2)), [1, -2])

    def test_false_ones_go(self):
        self.assertEqual(opened({1: 1, 2: -2}, (-1, 2)), [])

    def test_true_false_and_open(self):
        self.assertEqual(opened({1: -1, 4: 4, 5: 5}, (3, 1, 4, -5, -2)), [3, 4, -2])

    def test_each_once_where_it_stands_first(self):
        self.assertEqual(opened({}, (2, 1, 2, 3, 1)), [2, 1, 3])
        self.assertEqual(opened({1: 1}, (-2, 1, -1, -2, 1, -1, 3, -2)), [-2, 1, 3])

    def test_order_is_that_of_the_clause(self):
        self.assertEqual(opened({9: -9}, (12, -3, 9, 7, -12, 1)), [12, -3, 7, -12, 1])
        self.assertEqual(opened({9: -9}, (1, -12, 7, 9, -3, 12)), [1, -12, 7, -3, 12])

    def test_opposites_that_are_open(self):
        self.assertEqual(opened({}, (1, -1, 1)), [1, -1])
        self.assertEqual(opened({1: -1}, (1, -1, 1)), [-1])

    def test_empty_clause(self):
        self.assertEqual(opened({}, ()), [])
        self.assertEqual(opened({1: 1, 2: -2}, ()), [])

    def test_the_answer_is_a_list(self):
        self.assertIs(type(opened({}, ())), list)
        self.assertIs(type(opened({1: 1}, (1, 2))), list)

    def test_variables_that_the_clause_has_not(self):
        self.assertEqual(opened({5: 5, 6: -6}, (1, -2)), [1, -2])

    def test_beyond_twelve_variables(self):
        self.assertEqual(opened({13: 13, 40: -40}, (-13, 40, -40, 14, 14)), [-40, 14])

    def test_all_short_clauses_under_all_truths(self):
        for truths in all_truths():
            for clause in clauses_up_to(3):
                wanted = []
                for literal in clause:
                    if -literal not in truths.values() and literal not in wanted:
                        wanted.append(literal)
                self.assertEqual(opened(truths, clause), wanted, (truths, clause))

    def test_what_is_handed_in_is_as_it_was(self):
        truths = {3: -3, 1: 1}
        clause = (1, 3, 2, 2, -1)
        self.assertEqual(opened(truths, clause), [1, 2])
        self.assertEqual(list(truths.items()), [(3, -3), (1, 1)])
        self.assertEqual(clause, (1, 3, 2, 2, -1))

    def test_nothing_is_kept(self):
        truths = {1: 1}
        first = opened(truths, (-1, 2))
        first.append(7)
        self.assertEqual(opened(truths, (-1, 2)), [2])
        truths[1] = -1
        self.assertEqual(opened(truths, (-1, 2)), [-1, 2])
        truths[2] = -2
        self.assertEqual(opened(truths, (-1, 2)), [-1])
        self.assertEqual(first, [2, 7])


class HasBoth(unittest.TestCase):
    def test_both(self):
        for clause in ((1, -1), (-1, 1), (2, 3, -2), (-12, 5, 5, 12), (1, 2, 3, -4, 5, 4), (1, 1, -1)):
            self.assertIs(has_both(clause), True, clause)

    def test_not_both(self):
        for clause in ((1,), (-1,), (1, 2), (1, -2), (-1, -2, -3), (1, 2, 3, -4, 5), (1, -11), (1, -12, 2)):
            self.assertIs(has_both(clause), False, clause)

    def test_empty_clause(self):
        self.assertIs(has_both(()), False)

    def test_twice_is_not_both(self):
        self.assertIs(has_both((1, 1)), False)
        self.assertIs(has_both((-3, 2, -3, 2)), False)

    def test_beyond_twelve_variables(self):
        self.assertIs(has_both((13, 20, -13)), True)
        self.assertIs(has_both(tuple(range(1, 40))), False)

    def test_all_short_clauses(self):
        for clause in clauses_up_to(4):
            both = len({abs(literal) for literal in clause}) < len(set(clause))
            self.assertIs(has_both(clause), both, clause)

    def test_nothing_is_kept(self):
        self.assertIs(has_both((1,)), False)
        self.assertIs(has_both((-1,)), False)
        self.assertIs(has_both((1, -1)), True)
        self.assertIs(has_both((1, 2)), False)


class Satisfied(unittest.TestCase):
    def test_all_clauses_true(self):
        self.assertIs(satisfied([(1, 2), (-1, 3), (-2, -3)], (1, -2, 3)), True)

    def test_one_clause_false(self):
        clauses = [(1, 2), (-1, 3), (-2, -3)]
        self.assertIs(satisfied(clauses, (-1, -2, 3)), False)
        self.assertIs(satisfied(clauses, (1, -2, -3)), False)
        self.assertIs(satisfied(clauses, (1, 2, 3)), False)

    def test_no_clause_at_all(self):
        self.assertIs(satisfied([], ()), True)
        self.assertIs(satisfied([], (1, -2)), True)

    def test_empty_clause(self):
        self.assertIs(satisfied([()], ()), False)
        self.assertIs(satisfied([()], (1, 2)), False)
        self.assertIs(satisfied([(1,), ()], (1, 2)), False)
        self.assertIs(satisfied([(), (1,)], (1, 2)), False)

    def test_literals_twice(self):
        self.assertIs(satisfied([(1, 1), (-2, -2, 1)], (1, 2)), True)
        self.assertIs(satisfied([(1, 1), (-2, -2)], (1, 2)), False)

    def test_a_clause_with_both_is_true(self):
        self.assertIs(satisfied([(1, -1), (-2, 2)], (-1, 2)), True)

    def test_the_sign_counts(self):
        self.assertIs(satisfied([(-1,)], (-1,)), True)
        self.assertIs(satisfied([(-1,)], (1,)), False)
        self.assertIs(satisfied([(1,)], (-1,)), False)
        self.assertIs(satisfied([(1,)], (1,)), True)

    def test_the_last_literal_of_the_last_clause_counts(self):
        model = tuple(range(1, 13))
        clauses = [(variable,) for variable in model] * 5
        self.assertIs(satisfied(clauses, model), True)
        self.assertIs(satisfied(clauses[:-1] + [(-1, -2, -12)], model), False)
        self.assertIs(satisfied(clauses[:-1] + [(-1, -2, 12)], model), True)

    def test_somewhat_beyond_the_bounds(self):
        model = tuple(-variable for variable in range(1, 16))
        self.assertIs(satisfied([(-15, 1)] * 70, model), True)
        self.assertIs(satisfied([(-15, 1)] * 70 + [(15, 1)], model), False)

    def test_all_pairs_of_short_clauses(self):
        models = list(itertools.product((1, -1), (2, -2), (3, -3)))
        for pair in itertools.product(clauses_up_to(2), repeat=2):
            for model in models:
                true = all(set(clause) & set(model) for clause in pair)
                self.assertIs(satisfied(list(pair), model), true, (pair, model))

    def test_what_is_handed_in_is_as_it_was(self):
        clauses = [(2, 2, -1), (), (1, -1)]
        satisfied(clauses, (1, 2))
        self.assertEqual(clauses, [(2, 2, -1), (), (1, -1)])

    def test_nothing_is_kept(self):
        clauses = [(1,)]
        self.assertIs(satisfied(clauses, (1,)), True)
        clauses.append((-1,))
        self.assertIs(satisfied(clauses, (1,)), False)
        clauses.pop()
        self.assertIs(satisfied(clauses, (1,)), True)
        self.assertIs(satisfied(clauses, (-1,)), False)
