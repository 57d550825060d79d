"""[2.2]: what follows by hints."""

import itertools
import random
import unittest

from clausekeep.following import follows
from tests.helpers import drawn, has_model, models_of


def walk(table, true, hints):
    """What hints do, found by another way than the program's: how many are taken, how it stops, and what is true."""
    for place, hint in enumerate(hints):
        if hint not in table:
            return place, "wrong", true
        left = {literal for literal in table[hint] if -literal not in true}
        if not left:
            return place + 1, "end", true
        if len(left) > 1 or left <= true:
            return place, "wrong", true
        true = true | left
    return len(hints), "out", true


def group_holds(table, true, clause, number, hints):
    for literal in table[number]:
        if literal in true and literal != -clause[0]:
            return not hints
        if literal != -clause[0]:
            true = true | {-literal}
    taken, stop, true = walk(table, true, hints)
    return stop == "end" and taken == len(hints)


def way(table, clause, hints):
    """Which of the three ways a clause follows in, 0 for none."""
    if {-literal for literal in clause} & set(clause):
        return 1
    marks = [place for place, hint in enumerate(hints) if hint < 0] + [len(hints)]
    taken, stop, true = walk(table, {-literal for literal in clause}, hints[:marks[0]])
    if stop == "end":
        return 2
    if stop == "wrong" or not clause:
        return 0
    groups = [(-hints[start], hints[start + 1:end]) for start, end in zip(marks, marks[1:])]
    asked = [number for number, other in table.items() if -clause[0] in other]
    if sorted(asked) != sorted(number for number, behind in groups):
        return 0
    return 3 if all(group_holds(table, true, clause, number, behind) for number, behind in groups) else 0


class Follows(unittest.TestCase):
    def assert_follows(self, table, clause, hints):
        self.assertIs(follows(table, clause, hints), True, (table, clause, hints))

    def assert_fails(self, table, clause, hints):
        self.assertIs(follows(table, clause, hints), False, (table, clause, hints))


class Opposites(Follows):
    def test_whatever_the_table_and_the_hints_are(self):
        for clause in ((1, -1), (-1, 1), (3, 2, -3), (5, 5, -5), (2, 1, 1, -2)):
            for table in ({}, {1: ()}, {1: (1,), 2: (-1,)}, {4: (-3, 2), 9: (-5,)}):
                for hints in ((), (1,), (7, 8), (-1,), (-1, 1, -1), (4, -9, 9)):
                    self.assert_follows(table, clause, hints)

    def test_a_literal_twice_is_no_opposite(self):
        self.assert_fails({1: (-1, 3)}, (1, 1), ())
        self.assert_fails({1: (-2, 3)}, (2, 1, 2), ())


class Ended(Follows):
    TABLE = {1: (1, 2), 2: (-1, 2), 3: (1, -2), 4: (-1, -2), 7: (2, -3, 4), 8: (1, 1, -5), 9: (3, -3)}

    def test_the_first_hint_ends_it(self):
        self.assert_follows(self.TABLE, (1, 2), (1,))
        self.assert_follows(self.TABLE, (2, 1, 6), (1,))
        self.assert_follows(self.TABLE, (4, 2, -3), (7,))
        self.assert_follows({5: ()}, (), (5,))
        self.assert_follows({5: (), 6: (-1,)}, (1,), (5,))

    def test_some_become_true_ahead(self):
        self.assert_follows(self.TABLE, (2,), (1, 2))
        self.assert_follows(self.TABLE, (2,), (2, 1))
        self.assert_follows({**self.TABLE, 10: (2,)}, (), (10, 3, 4))
        self.assert_follows({1: (1,), 2: (-1, 2), 3: (-2, -1, 3), 4: (-3,)}, (), (1, 2, 3, 4))

    def test_literals_twice(self):
        self.assert_follows(self.TABLE, (1, -5), (8,))
        self.assert_follows({1: (2, 2), 2: (-2, -2, 1, 1)}, (1, 1), (1, 2))
        self.assert_follows({1: (2, 2), 2: (-2, -2, 1, 1)}, (1,), (1, 2))

    def test_numbers_of_the_table_are_any_from_one_on(self):
        self.assert_follows({999999999: (1,), 60: (-1,)}, (), (999999999, 60))
        self.assert_follows({2: (-1,), 1: (1,)}, (), (2, 1))

    def test_a_number_that_is_not_in_the_table(self):
        self.assert_fails(self.TABLE, (2,), (5,))
        self.assert_fails(self.TABLE, (2,), (5, 1, 2))
        self.assert_fails(self.TABLE, (2,), (1, 5, 2))
        self.assert_fails(self.TABLE, (2,), (1, 6))
        self.assert_fails({}, (1,), (1,))
        self.assert_fails({}, (), (1,))

    def test_a_number_below_nought_is_none_of_the_table(self):
        self.assert_fails(self.TABLE, (2,), (-1, 2))
        self.assert_fails(self.TABLE, (2,), (1, -2))
        self.assert_fails({1: (1,), 2: (-1,)}, (), (1, -2))

    def test_more_than_one_open_literal(self):
        self.assert_fails(self.TABLE, (), (1,))
        self.assert_fails(self.TABLE, (2,), (7, 1, 2))
        self.assert_fails(self.TABLE, (2,), (1, 7, 2))
        self.assert_fails({1: (1, 2), 2: (1,), 3: (-1,)}, (), (1, 2, 3))

    def test_a_true_and_an_open_literal_are_more_than_one(self):
        self.assert_fails({1: (1,), 2: (1, 2), 3: (-1,)}, (), (1, 2, 3))
        self.assert_fails({1: (-3, 2), 2: (-3, 4), 3: (-4,), 4: (3,)}, (3,), (1, 4))

    def test_both_literals_of_an_open_variable_are_more_than_one(self):
        self.assert_fails({**self.TABLE, 10: (3,), 11: (-3,)}, (), (9, 10, 11))

    def test_an_open_literal_that_is_true_already(self):
        self.assert_fails({1: (1,), 2: (-1,)}, (), (1, 1, 2))
        self.assert_fails({1: (-2, 1), 2: (1, 2)}, (2, 1), (1, 2))
        self.assert_fails({**self.TABLE, 10: (3,), 11: (-3,)}, (), (10, 9, 11))

    def test_hints_that_run_out(self):
        self.assert_fails(self.TABLE, (2,), ())
        self.assert_fails(self.TABLE, (2,), (1,))
        self.assert_fails({1: (1,), 2: (-1,)}, (), (1,))
        self.assert_fails({1: (1,)}, (), ())
        self.assert_fails({1: ()}, (), ())
        self.assert_fails({}, (), ())

    def test_the_order_of_hints_counts(self):
        table = {1: (1,), 2: (-1, 2), 3: (-2,)}
        self.assert_follows(table, (), (1, 2, 3))
        self.assert_follows(table, (), (3, 2, 1))
        self.assert_fails(table, (), (2, 1, 3))

    def test_what_stands_behind_the_end_is_not_looked_at(self):
        for tail in ((5,), (1,), (7,), (-1,), (-5,), (999999999, -999999999), (1, 2, 3, -4), (-1, -1, 5)):
            self.assert_follows(self.TABLE, (2,), (1, 2) + tail)
            self.assert_follows({**self.TABLE, 10: ()}, (), (10,) + tail)
            self.assert_follows({**self.TABLE, 10: (3,), 11: (-3,)}, (), (10, 11) + tail)

    def test_a_clause_of_the_table_follows_by_itself(self):
        for number, clause in self.TABLE.items():
            self.assert_follows(self.TABLE, clause, (number,))


class Groups(Follows):
    # The clauses 1, 2 and 4 have the opposite of 1; all others are there for their hints.
    TABLE = {1: (-1, 3), 2: (4, -1, 5), 3: (3, 2), 4: (-1, -2), 6: (2, 4, 6), 7: (5, -6), 8: (7, 8)}
    CLAUSE = (1, 2)
    HINTS = (-1, 3, -2, 6, 7, -4)

    def test_each_group_holds(self):
        self.assert_follows(self.TABLE, self.CLAUSE, self.HINTS)

    def test_groups_stand_in_any_order(self):
        for groups in itertools.permutations(((-1, 3), (-2, 6, 7), (-4,))):
            self.assert_follows(self.TABLE, self.CLAUSE, tuple(itertools.chain(*groups)))

    def test_the_order_of_the_table_does_not_count(self):
        for numbers in itertools.permutations(self.TABLE, 7):
            self.assert_follows({number: self.TABLE[number] for number in numbers}, self.CLAUSE, self.HINTS)

    def test_no_clause_with_the_opposite_and_no_group(self):
        self.assert_follows({}, (1,), ())
        self.assert_follows({}, (-3, 2), ())
        self.assert_follows({1: (1, 2), 2: (2, 3)}, (1,), ())
        self.assert_follows({1: (-2, 1)}, (1, 2), ())

    def test_hints_ahead_of_no_group(self):
        self.assert_follows({1: (1, 2), 2: (-2, 3)}, (1,), (1,))
        self.assert_follows({1: (1, 2), 2: (-2, 3)}, (1,), (1, 2))
        self.assert_fails({1: (1, 2), 2: (-2, 3)}, (1,), (2,))
        self.assert_fails({1: (1, 2), 2: (-2, 3)}, (1,), (1, 1))
        self.assert_fails({1: (1, 2), 2: (-2, 3)}, (1,), (1, 3))

    def test_the_first_literal_alone_counts(self):
        self.assert_follows({1: (-2, 1, 3)}, (1, 2), ())
        self.assert_fails({1: (-2, 3)}, (2, 1), ())
        self.assert_follows({1: (-2, 3)}, (1, 2), ())
        self.assert_follows({1: (2, 3), 2: (3, -2)}, (-2,), (-1, 2))

    def test_hints_ahead_of_groups_stay_for_each_group(self):
        table = {1: (1, 2), 2: (-2, 3), 3: (-1, 4), 4: (-1, 5), 5: (4, -3), 6: (5, -3)}
        self.assert_follows(table, (1,), (1, 2, -3, 5, -4, 6))
        self.assert_fails(table, (1,), (1, -3, 5, -4, 6))
        self.assert_follows(table, (1,), (1, -3, 2, 5, -4, 2, 6))
        self.assert_fails(table, (1,), (1, -3, 2, 5, -4, 6))

    def test_wrong_hints_ahead_of_groups(self):
        self.assert_fails(self.TABLE, self.CLAUSE, (9,) + self.HINTS)
        self.assert_fails(self.TABLE, self.CLAUSE, (8,) + self.HINTS)
        self.assert_fails(self.TABLE, self.CLAUSE, (6,) + self.HINTS)
        self.assert_follows(self.TABLE, self.CLAUSE, (3, -1, -2, 6, 7, -4))
        self.assert_fails(self.TABLE, self.CLAUSE, (3, 3, -1, -2, 6, 7, -4))

    def test_an_end_ahead_of_groups_makes_all_groups_free(self):
        table = {**self.TABLE, 9: (2, -3)}
        for tail in ((), (-9,), (-1, -1), (-1, 3), (5, -5)):
            self.assert_follows(table, self.CLAUSE, (3, 9) + tail)

    def test_a_group_too_many(self):
        for group in ((-3,), (-3, 3), (-6, 6, 7), (-8,), (-9,), (-5, 3), (-999999999,)):
            self.assert_fails(self.TABLE, self.CLAUSE, self.HINTS + group)
            self.assert_fails(self.TABLE, self.CLAUSE, group + self.HINTS)
            self.assert_fails({}, (1,), group)

    def test_a_group_that_lacks(self):
        self.assert_fails(self.TABLE, self.CLAUSE, (-2, 6, 7, -4))
        self.assert_fails(self.TABLE, self.CLAUSE, (-1, 3, -4))
        self.assert_fails(self.TABLE, self.CLAUSE, (-1, 3, -2, 6, 7))
        self.assert_fails(self.TABLE, self.CLAUSE, ())
        self.assert_fails({1: (-1, -2)}, (1, 2), ())

    def test_a_group_twice(self):
        self.assert_fails(self.TABLE, self.CLAUSE, self.HINTS + (-4,))
        self.assert_fails(self.TABLE, self.CLAUSE, self.HINTS + (-1, 3))
        self.assert_fails(self.TABLE, self.CLAUSE, (-1, 3, -1, 3, -4))
        self.assert_fails(self.TABLE, self.CLAUSE, (-1, 3, -2, 6, 7, -1, 3))

    def test_a_group_for_a_clause_without_the_opposite(self):
        self.assert_fails(self.TABLE, self.CLAUSE, (-1, 3, -2, 6, 7, -3))
        self.assert_fails({1: (1, 2), 2: (-2, 3)}, (1, 2), (-1,))
        self.assert_fails({1: (1, 3), 2: (-2, -1)}, (1, 2), (-1, -2))

    def test_a_group_for_a_number_that_is_not_in_the_table(self):
        self.assert_fails(self.TABLE, self.CLAUSE, (-1, 3, -2, 6, 7, -5))
        self.assert_fails({}, (1,), (-1,))

    def test_a_group_that_ends_ahead_of_its_last_hint(self):
        for hint in (3, 6, 8, 1, 99):
            self.assert_fails(self.TABLE, self.CLAUSE, (-1, 3, hint, -2, 6, 7, -4))
            self.assert_fails(self.TABLE, self.CLAUSE, (-4, -1, 3, -2, 6, 7, hint))

    def test_a_group_that_does_not_end(self):
        self.assert_fails(self.TABLE, self.CLAUSE, (-1, 3, -2, 6, -4))
        self.assert_fails(self.TABLE, self.CLAUSE, (-1, -2, 6, 7, -4))
        self.assert_fails(self.TABLE, self.CLAUSE, (-4, -1, 3, -2))

    def test_wrong_hints_in_a_group(self):
        self.assert_fails(self.TABLE, self.CLAUSE, (-1, 9, 3, -2, 6, 7, -4))
        self.assert_fails(self.TABLE, self.CLAUSE, (-1, 8, 3, -2, 6, 7, -4))
        self.assert_fails(self.TABLE, self.CLAUSE, (-1, 3, -2, 6, 6, 7, -4))
        self.assert_fails(self.TABLE, self.CLAUSE, (-1, 3, -2, 7, 7, -4))
        self.assert_fails(self.TABLE, self.CLAUSE, (-1, 3, -2, 8, 6, 7, -4))

    def test_a_group_that_must_have_no_hints(self):
        self.assert_follows({1: (-1, -2)}, (1, 2), (-1,))
        self.assert_fails({1: (-1, -2), 2: (1, 2)}, (1, 2, 3), (-1, 2))
        for hint in (3, 4, 6, 8, 99):
            self.assert_fails(self.TABLE, self.CLAUSE, self.HINTS + (hint,))

    def test_a_literal_that_hints_ahead_made_true(self):
        table = {1: (1, 3), 2: (-1, 3, 4), 3: (4, 1)}
        self.assert_follows(table, (1,), (1, -2))
        self.assert_fails(table, (1,), (1, -2, 3))
        self.assert_follows(table, (1,), (-2, 1))
        self.assert_follows(table, (1,), (-2, 3))
        self.assert_fails(table, (1,), (-2,))

    def test_a_literal_that_an_opposite_ahead_of_it_made_true(self):
        for clause in ((-1, 2, -2), (2, -1, -2), (-2, 3, 2, -1), (2, 3, -2, -1)):
            self.assert_follows({1: clause}, (1,), (-1,))
            self.assert_fails({1: clause, 2: (2, 1), 3: (-2, 1), 4: (1, 3)}, (1,), (-1, 2, 3))
            self.assert_fails({1: clause, 4: (1, 3)}, (1,), (-1, 4))

    def test_a_false_literal_of_the_clause_is_not_true(self):
        table = {1: (-1, 2), 2: (1, 3), 3: (2, -3)}
        self.assert_follows(table, (1, 2), (-1, 2, 3))
        self.assert_fails(table, (1, 2), (-1,))

    def test_the_opposite_of_the_first_literal_twice(self):
        self.assert_follows({1: (-1, -2, -1)}, (1, 2), (-1,))
        self.assert_follows({1: (-1, 3, -1), 2: (3, 1)}, (1,), (-1, 2))
        self.assert_follows({1: (3, -1, -1), 2: (3, 1)}, (1,), (-1, 2))
        self.assert_fails({1: (-1, 3, -1), 2: (3, 1)}, (1,), (-1,))
        self.assert_fails({1: (-1, -1), 2: (3, 1)}, (1,), (-1,))
        self.assert_fails({1: (-1, -1)}, (1,), (-1, 1))

    def test_the_first_literal_too(self):
        self.assert_fails({1: (-1, 1)}, (1,), (-1,))
        self.assert_fails({1: (1, -1)}, (1,), (-1,))
        self.assert_fails({1: (-1, 1)}, (1,), ())
        self.assert_follows({1: (-1, 1, 3), 2: (3, 1)}, (1,), (-1, 2))
        self.assert_follows({1: (1, 3, -1), 2: (3, 1)}, (1,), (-1, 2))
        self.assert_follows({1: (1, -2, -1)}, (1, 2), (-1,))
        self.assert_fails({1: (1, 3, -1), 2: (3, 1)}, (1,), (-1,))

    def test_only_the_opposite_of_the_first_literal(self):
        self.assert_fails({1: (-1,)}, (1,), (-1,))
        self.assert_fails({1: (-1,), 2: (2, 3)}, (1, 2), (-1, 2))
        self.assert_follows({1: (-1,), 2: (2, 1)}, (1, 2), (-1, 2))
        self.assert_follows({1: (-1,), 2: (1, 3), 3: (1, -3)}, (1,), (-1, 2, 3))

    def test_the_first_literal_twice_in_the_clause(self):
        self.assert_follows({1: (-1, -2)}, (1, 1, 2), (-1,))
        self.assert_follows({1: (-1, 3), 2: (3, 1)}, (1, 1), (-1, 2))
        self.assert_fails({1: (-1, 3), 2: (3, 1)}, (1, 1), (-1,))

    def test_the_empty_clause_with_groups(self):
        self.assert_fails({}, (), ())
        self.assert_fails({}, (), (-1,))
        self.assert_fails({1: (1,)}, (), (-1,))
        self.assert_fails({1: (1,), 2: (-1,)}, (), (-1, 2))
        self.assert_fails({1: (1,), 2: (-1,)}, (), (1, -2))
        self.assert_fails({1: (1, 2)}, (), ())

    def test_groups_of_one_do_not_help_the_next(self):
        table = {1: (-1, 3), 2: (-1, 4), 3: (3, 5), 4: (3, -5), 5: (4, -5)}
        self.assert_fails(table, (1,), (-1, 3, 4, -2, 5))
        self.assert_fails(table, (1,), (-2, 5, -1, 3, 4))
        self.assert_follows({**table, 6: (4, 5)}, (1,), (-1, 3, 4, -2, 5, 6))


class Whole(Follows):
    """Cases by chance, each held against another way of telling."""

    def cases(self, seed, rounds):
        chance = random.Random(seed)
        for number in range(rounds):
            clauses = drawn(chance, 3, chance.randrange(1, 6), 3)
            table = dict(zip(chance.sample(range(1, 9), len(clauses)), clauses))
            clause = drawn(chance, 3, 1, chance.choice((0, 1, 1, 2, 2, 3)))[0]
            yield table, clause, self.hints(chance, table, clause)

    def hints(self, chance, table, clause):
        """Hints of which many are nearly right."""
        numbers = list(table) * 3 + [9]
        hints = [chance.choice(numbers) for place in range(chance.randrange(3))]
        if chance.randrange(4):
            for number, other in table.items():
                if clause and -clause[0] in other and chance.randrange(8):
                    hints += [-number] + [chance.choice(numbers) for place in range(chance.choice((0, 0, 1, 2)))]
        if not chance.randrange(8):
            hints.insert(chance.randrange(len(hints) + 1), -chance.choice(numbers))
        return tuple(hints)

    def test_each_way_is_told_as_another_look_tells_it(self):
        counts = [0, 0, 0, 0]
        for table, clause, hints in self.cases(1, 20000):
            wanted = way(table, clause, hints)
            counts[wanted] += 1
            self.assertIs(follows(table, clause, hints), wanted > 0, (table, clause, hints))
        self.assertGreater(min(counts), 1000, counts)

    def test_all_short_rows_of_hints(self):
        tables = ({1: (1, 2), 2: (-1, 2), 3: (-2, 1)}, {1: (-1, -2), 2: (1, 1), 3: (-1, 1)},
                  {1: (-1, 2, -1), 3: (2, 1)})
        clauses = [clause for size in range(3) for clause in itertools.product((1, -1, 2, -2), repeat=size)]
        for size in range(5):
            for hints in itertools.product((1, 2, 3, -1, -3), repeat=size):
                for table, clause in itertools.product(tables, clauses):
                    wanted = way(table, clause, hints) > 0
                    self.assertIs(follows(table, clause, hints), wanted, (table, clause, hints))

    def test_what_follows_takes_no_last_model(self):
        for table, clause, hints in self.cases(2, 6000):
            if follows(table, clause, hints):
                before = list(table.values())
                if has_model(3, before):
                    self.assertTrue(has_model(3, before + [clause]), (table, clause, hints))

    def test_hints_above_nought_that_end_it_lose_no_model(self):
        for table, clause, hints in self.cases(3, 6000):
            if way(table, clause, hints) == 2:
                self.assertIs(follows(table, clause, hints), True)
                for model in models_of(3, list(table.values())):
                    self.assertTrue(set(clause) & set(model), (table, clause, hints))

    def test_what_is_handed_in_is_as_it_was(self):
        for table, clause, hints in self.cases(4, 2000):
            items, literals, numbers = list(table.items()), list(clause), list(hints)
            answer = follows(table, clause, hints)
            self.assertEqual(list(table.items()), items)
            self.assertEqual((list(clause), list(hints)), (literals, numbers))
            self.assertIs(follows(table, clause, hints), answer)

    def test_nothing_is_kept(self):
        table = {1: (1, 2), 2: (-1, 2)}
        self.assert_follows(table, (2,), (1, 2))
        table[2] = (-1, 3)
        self.assert_fails(table, (2,), (1, 2, 2))
        table.clear()
        self.assert_fails(table, (2,), (1, 2))
        table.update({1: (1, 2), 2: (-1, 2)})
        self.assert_follows(table, (2,), (1, 2))
