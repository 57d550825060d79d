"""The texts of formulas."""

from clausekeep.errors import NoFormula
from clausekeep.words import number_in

MOST_VARIABLES = 12
MOST_CLAUSES = 60


def written(variables, clauses):
    """The text of a formula."""
    count = len(clauses)
    lines = [f"formula {variables} {count}"] + [clause_line(clause) for clause in clauses]
    return "".join([f"{line}\n" for line in lines])


def clause_line(clause):
    """The line of a clause, without its line end."""
    return " ".join([str(literal) for literal in clause] + ["0"])


def read(text):
    """The pair of the variables and the list of clauses that a text writes; NoFormula."""
    lines = text.split("\n")
    # What stands behind the last line end is no whole line.
    rest = lines.pop()
    head = head_in(lines[0]) if lines else None
    if head is None:
        raise NoFormula(1)
    variables = head[0]
    last = head[1] + 1
    clauses = []
    for line in lines[1:last]:
        clause = clause_in(line, variables)
        if clause is None:
            raise NoFormula(len(clauses) + 2)
        clauses.append(clause)
    # A line that lacks and whatever is too much are both told at the line behind the last clause read.
    if len(lines) != last or rest != "":
        raise NoFormula(len(clauses) + 2)
    return (variables, clauses)


def head_in(line):
    """The pair of the numbers of variables and clauses that a first line writes, or None."""
    words = line.split(" ")
    if len(words) != 3 or words[0] != "formula":
        return None
    variables = number_in(words[1])
    count = number_in(words[2])
    if is_within(variables, MOST_VARIABLES) and is_within(count, MOST_CLAUSES):
        return (variables, count)
    return None


def is_within(number, most):
    """Whether there is a number, from 0 to most."""
    return number is not None and 0 <= number <= most


def clause_in(line, variables):
    """The clause that a line writes, or None."""
    words = line.split(" ")
    if words.pop() != "0":
        return None
    literals = [number_in(word) for word in words]
    if all([is_literal(literal, variables) for literal in literals]):
        return tuple(literals)
    return None


def is_literal(number, variables):
    """Whether there is a number, and it is a literal of one of the variables."""
    return number is not None and 1 <= abs(number) <= variables
