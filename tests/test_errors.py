"""The interface of errors.py: the classes and their values."""

import unittest

from clausekeep.errors import ClauseError, NoFormula, NoRefutation, NoStep, NotRight, TooMany

BELOW = (NoFormula, NoStep, NotRight, NoRefutation, TooMany)
MADE = (NoFormula(3), NoStep("words"), NotRight(4), NoRefutation("words"), TooMany("words"))


class Errors(unittest.TestCase):
    def test_clause_error_stands_straight_under_value_error(self):
        self.assertEqual(ClauseError.__bases__, (ValueError,))

    def test_all_others_stand_under_clause_error(self):
        for kind in BELOW:
            self.assertTrue(issubclass(kind, ClauseError), kind)
            self.assertIsNot(kind, ClauseError)

    def test_none_stands_under_another(self):
        for kind in BELOW:
            for other in BELOW:
                self.assertEqual(issubclass(kind, other), kind is other, (kind, other))

    def test_each_is_taken_as_itself_and_as_those_above(self):
        for error in MADE:
            for kind in (error.__class__, ClauseError, ValueError):
                with self.assertRaises(kind):
                    raise error

    def test_each_is_made_of_its_class(self):
        self.assertEqual(tuple(error.__class__ for error in MADE), BELOW)

    def test_errors_without_a_value_are_made_of_nothing_too(self):
        for kind in (ClauseError, NoStep, NoRefutation, TooMany):
            self.assertIsInstance(kind(), ValueError)

    def test_line(self):
        for line in (1, 2, 62):
            self.assertEqual(NoFormula(line).line, line)

    def test_place(self):
        for place in (0, 1, 500):
            self.assertEqual(NotRight(place).place, place)

    def test_each_object_has_its_own_value(self):
        lines = [NoFormula(line) for line in (1, 2, 3)]
        places = [NotRight(place) for place in (0, 5, 3)]
        self.assertEqual([error.line for error in lines], [1, 2, 3])
        self.assertEqual([error.place for error in places], [0, 5, 3])
