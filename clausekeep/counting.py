"""Models, counted."""

from clausekeep.clauses import left_over


def counted(variables, clauses):
    """How many models a formula has."""
    if () in clauses:
        return 0
    if clauses == []:
        return ways(variables)
    # A literal of a short clause leaves less to look at where it is false.
    literal = min(clauses, key=len)[0]
    others = variables - 1
    return counted(others, left_over(clauses, literal)) + counted(others, left_over(clauses, -literal))


def ways(variables):
    """How many truths so many variables can have."""
    number = 1
    for variable in range(variables):
        number *= 2
    return number
