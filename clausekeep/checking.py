"""Steps looked through, one by one."""

from clausekeep.clauses import numbered
from clausekeep.errors import NotRight
from clausekeep.following import follows


class Keeper:
    """A formula's clauses and what right steps made of them; refuted is whether the refutation is done."""

    def __init__(self, variables, clauses):
        self.variables = variables
        self.table = numbered(clauses)
        self.greatest = len(clauses)
        self.taken = 0
        self.refuted = False

    def take(self, step):
        """Take a step; NotRight."""
        if not self.refuted:
            if step[0] == "drop":
                self.drop_clauses(step[1])
            else:
                self.add_clause(step[1], step[2], step[3])
        self.taken += 1

    def drop_clauses(self, numbers):
        """Take the clauses of numbers out, where they are there."""
        for number in numbers:
            self.table.pop(number, None)

    def add_clause(self, number, clause, hints):
        """Put a clause into the table by its number; NotRight."""
        if not self.is_right(number, clause, hints):
            raise NotRight(self.taken)
        self.table[number] = clause
        self.greatest = number
        self.refuted = clause == ()

    def is_right(self, number, clause, hints):
        """Whether a step that adds is right."""
        if number <= self.greatest or any([abs(literal) > self.variables for literal in clause]):
            return False
        return follows(self.table, clause, hints)


def checked(variables, clauses, steps):
    """Whether steps, all right, come to the empty clause; NotRight."""
    keeper = Keeper(variables, clauses)
    for step in steps:
        keeper.take(step)
    return keeper.refuted
