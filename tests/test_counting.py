"""[3.3]: models, counted."""

import itertools
import random
import unittest

from clausekeep.counting import counted
from clausekeep.searching import all_models
from tests.helpers import WITH, WITHOUT, drawn, drawn_wide, even, every_sign, models_of, odd

CLAUSES_OF_TWO = [clause for size in range(4) for clause in itertools.product((1, -1, 2, -2), repeat=size)]


class Counted(unittest.TestCase):
    def assert_counted(self, variables, clauses, wanted):
        answer = counted(variables, clauses)
        self.assertIs(type(answer), int)
        self.assertEqual(answer, wanted, (variables, clauses))

    def assert_counted_as_all(self, variables, clauses):
        self.assert_counted(variables, clauses, len(models_of(variables, clauses)))

    def test_no_variables(self):
        self.assert_counted(0, [], 1)
        self.assert_counted(0, [()], 0)
        self.assert_counted(0, [(), ()], 0)

    def test_no_clauses(self):
        for variables in range(21):
            self.assert_counted(variables, [], 2 ** variables)

    def test_the_empty_clause(self):
        for variables in (0, 1, 2, 12):
            self.assert_counted(variables, [()], 0)
        for clauses in ([(), (1,)], [(1,), ()], [(1, 2), (), (-1,)], [(1, -1), ()]):
            self.assert_counted(2, clauses, 0)

    def test_one_clause(self):
        self.assert_counted(1, [(1,)], 1)
        self.assert_counted(1, [(-1,)], 1)
        for size in range(1, 13):
            for sign in (1, -1):
                clause = tuple(sign * variable for variable in range(1, size + 1))
                self.assert_counted(size, [clause], 2 ** size - 1)

    def test_no_model(self):
        self.assert_counted(1, [(1,), (-1,)], 0)
        for name, (variables, clauses) in WITHOUT.items():
            with self.subTest(name):
                self.assert_counted(variables, clauses, 0)

    def test_with_a_model(self):
        for name, (variables, clauses) in WITH.items():
            if variables <= 12:
                with self.subTest(name):
                    self.assert_counted_as_all(variables, clauses)
        self.assert_counted(*WITH["seventy of fourteen"], 2 ** 14 - 70)

    def test_variables_in_no_clause(self):
        for variables in range(3, 13):
            self.assert_counted(variables, [(1, 2, 3)], 7 * 2 ** (variables - 3))
            self.assert_counted(variables, [(1,), (3,)], 2 ** (variables - 2))
            self.assert_counted(variables, [(variables,)], 2 ** (variables - 1))
            self.assert_counted(variables, [(2,), (-2,)], 0)
        self.assert_counted(12, [(5, -9)], 3 * 2 ** 10)

    def test_literals_twice(self):
        self.assert_counted(1, [(1, 1)], 1)
        self.assert_counted(2, [(1, 1, 2, 1)], 3)
        self.assert_counted(3, [(-2, -2), (2, 3, 2, 3)], 2)
        self.assert_counted(1, [(1, 1), (-1, -1)], 0)

    def test_opposites(self):
        self.assert_counted(1, [(1, -1)], 2)
        self.assert_counted(2, [(1, -1)], 4)
        self.assert_counted(2, [(2, -1, -2)], 4)
        self.assert_counted(3, [(1, -1), (2, -2), (3, -3)], 8)
        self.assert_counted(3, [(1, -1, 2), (-2, -2), (3, 1, -3, 1)], 4)
        self.assert_counted(12, [(1, -1)] * 60, 4096)

    def test_clauses_that_are_the_same(self):
        self.assert_counted(2, [(1, 2), (1, 2), (2, 1)], 3)
        self.assert_counted(12, [(1, 2)] * 60, 3 * 2 ** 10)

    def test_variables_that_share_no_clause(self):
        self.assert_counted(12, [(1, 2, 3), (4, 5, 6), (7, 8, 9), (10, 11, 12)], 7 ** 4)
        self.assert_counted(12, [(variable, -variable - 1) for variable in range(1, 12, 2)], 3 ** 6)
        self.assert_counted(12, [(variable,) for variable in range(1, 13)], 1)
        self.assert_counted(12, odd((1, 3, 5)) + odd((2, 4, 6)) + even((7, 9, 11)) + even((8, 10, 12)), 4 ** 4)
        self.assert_counted(12, every_sign((1, 2, 3))[1:] + every_sign((10, 11))[1:], 2 ** 7)
        self.assert_counted(12, every_sign((1, 2, 3))[1:] + every_sign((10, 11)), 0)
        self.assert_counted(12, [clause for first in range(1, 13, 4) for clause in
                                 every_sign(range(first, first + 4))[:15]], 1)

    def test_odd_and_even(self):
        for size in range(1, 6):
            self.assert_counted(size, odd(range(1, size + 1)), 2 ** (size - 1))
            self.assert_counted(12, even(range(13 - size, 13)), 2 ** 11)

    def test_all_pairs_of_short_clauses(self):
        for clauses in itertools.product(CLAUSES_OF_TWO, repeat=2):
            self.assert_counted_as_all(2, list(clauses))

    def test_small_formulas_by_chance(self):
        chance = random.Random(11)
        some = 0
        for number in range(1500):
            variables = chance.randrange(6)
            clauses = drawn(chance, variables, chance.randrange(10), 4)
            if chance.randrange(4):
                clauses = [clause for clause in clauses if clause]
            self.assert_counted_as_all(variables, clauses)
            some += counted(variables, clauses) > 1
        self.assertGreater(some, 300)

    def test_wide_formulas_by_chance(self):
        for seed in range(25):
            self.assert_counted_as_all(12, drawn_wide(seed, 12, 12 + 2 * seed))

    def test_long_clauses_by_chance(self):
        chance = random.Random(12)
        for size in (5, 8, 12):
            clauses = [tuple(chance.choice((1, -1)) * variable for variable in chance.sample(range(1, 13), size))
                       for number in range(60)]
            self.assert_counted_as_all(12, clauses)

    def test_somewhat_beyond_the_bounds(self):
        for seed in range(5):
            clauses = drawn_wide(seed, 15, 65)
            self.assert_counted(15, clauses, len(all_models(15, clauses, 10 ** 6)))
        self.assert_counted(20, [(variable, variable + 1) for variable in range(1, 21, 2)], 3 ** 10)

    def test_the_order_of_clauses_and_literals_does_not_count(self):
        chance = random.Random(13)
        for seed in range(10):
            clauses = drawn_wide(seed, 9, 20)
            other = [tuple(chance.sample(clause, 3)) for clause in chance.sample(clauses, 20)]
            self.assertEqual(counted(9, clauses), counted(9, other))

    def test_what_is_handed_in_is_as_it_was(self):
        for clauses in ([], [()], [(1, 2), (-1, -1, 3), (2, -2)], drawn_wide(1, 3, 20)):
            before = list(clauses)
            answer = counted(3, clauses)
            self.assertEqual(clauses, before)
            self.assertEqual(counted(3, clauses), answer)

    def test_nothing_is_kept(self):
        clauses = [(1, 2)]
        self.assert_counted(2, clauses, 3)
        clauses.append((-1,))
        self.assert_counted(2, clauses, 1)
        clauses.clear()
        self.assert_counted(2, clauses, 4)
