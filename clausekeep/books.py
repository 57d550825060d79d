"""Books: lines about a formula and steps, answered one by one."""

from clausekeep.checking import Keeper
from clausekeep.clauses import satisfied
from clausekeep.counting import counted
from clausekeep.errors import NoRefutation, NoStep, NotRight, TooMany
from clausekeep.formulas import MOST_CLAUSES, MOST_VARIABLES, clause_in, clause_line
from clausekeep.searching import solved
from clausekeep.steps import shown, step_in
from clausekeep.trimming import core, trimmed

NOT_UNDERSTOOD = "not understood"
TOO_MANY = "too many"
NOT_RIGHT = "not right"
NO_REFUTATION = "no refutation"


def played(variables, lines):
    """The answers of a new book to lines; TooMany."""
    if variables < 0 or variables > MOST_VARIABLES:
        raise TooMany("a book has 0 to 12 variables")
    book = Book(variables)
    return [book.answer(line) for line in lines]


class Book:
    """A number of variables, clauses, and the steps taken."""

    def __init__(self, variables):
        self.variables = variables
        self.clauses = []
        self.steps = []
        self.keeper = Keeper(variables, [])

    def answer(self, line):
        """The answer to a line."""
        parts = line.partition(" ")
        if parts[0] == "clause":
            return self.answer_clause(parts[2])
        if parts[0] == "step":
            return self.answer_step(parts[2])
        if parts[0] == "holds":
            return self.answer_holds(parts[2])
        if line == "count":
            return str(counted(self.variables, self.clauses))
        if line == "solve":
            return self.answer_solve()
        if line == "core":
            return self.answer_core()
        if line == "trim":
            return self.answer_trim()
        return NOT_UNDERSTOOD

    def answer_clause(self, words):
        """The answer to the words behind `clause`."""
        clause = clause_in(words, self.variables)
        if clause is None or self.steps != []:
            return NOT_UNDERSTOOD
        if len(self.clauses) >= MOST_CLAUSES:
            return TOO_MANY
        self.clauses.append(clause)
        # Steps are looked through from the clauses that are there when the first one comes.
        self.keeper = Keeper(self.variables, self.clauses)
        return str(len(self.clauses))

    def answer_step(self, words):
        """The answer to the words behind `step`."""
        try:
            step = step_in(words)
            self.keeper.take(step)
        except NoStep:
            return NOT_UNDERSTOOD
        except NotRight:
            return NOT_RIGHT
        self.steps.append(step)
        return "refuted" if self.keeper.refuted else "taken"

    def answer_holds(self, words):
        """The answer to the words behind `holds`."""
        literals = clause_in(words, self.variables)
        if literals is None or not self.are_all_told(literals):
            return NOT_UNDERSTOOD
        return "yes" if satisfied(self.clauses, literals) else "no"

    def are_all_told(self, literals):
        """Whether literals are just one for each variable."""
        return sorted([abs(literal) for literal in literals]) == list(range(1, self.variables + 1))

    def answer_solve(self):
        """The answer to `solve`."""
        pair = solved(self.variables, self.clauses)
        if pair[0] is None:
            return joined(pair[1])
        words = clause_line(pair[0])
        return f"model {words}"

    def answer_core(self):
        """The answer to `core`."""
        try:
            numbers = core(self.variables, self.clauses, self.steps)
        except NoRefutation:
            return NO_REFUTATION
        words = clause_line(numbers)
        return f"core {words}"

    def answer_trim(self):
        """The answer to `trim`."""
        try:
            return joined(trimmed(self.variables, self.clauses, self.steps))
        except NoRefutation:
            return NO_REFUTATION


def joined(steps):
    """The lines of steps, in one."""
    return " / ".join([shown(step) for step in steps])
