"""Smaller formulas."""

from clausekeep.clauses import has_both, left_over, opened, truths_of
from clausekeep.searching import solved


def tidy(clauses):
    """Clauses with literals each once, without those that are always true or that another one covers."""
    plain = [tuple(opened({}, clause)) for clause in clauses if not has_both(clause)]
    return [plain[place] for place in range(len(plain)) if not is_covered(plain, place)]


def is_covered(clauses, place):
    """Whether the clause at a place is covered by one with fewer literals, or with the same ones ahead of it."""
    clause = clauses[place]
    ahead = any([covers(other, clause) for other in clauses[:place]])
    return ahead or any([covers(other, clause) for other in clauses if len(other) < len(clause)])


def covers(clause, other):
    """Whether all literals of a clause are among those of the other one."""
    return all([literal in other for literal in clause])


def when_true(clauses, literal):
    """The clauses, given that a literal is true."""
    return left_over(clauses, literal)


def reduced(clauses):
    """The pair of the clauses that are left and the list of the literals kept."""
    left = tidy(clauses)
    kept = []
    literal = next_literal(left)
    while literal is not None:
        kept.append(literal)
        left = tidy(when_true(left, literal))
        literal = next_literal(left)
    return (left, kept)


def next_literal(clauses):
    """The literal that is next, or None; none is where a clause is empty."""
    if () in clauses:
        return None
    for clause in clauses:
        if len(clause) == 1:
            return clause[0]
    return lone_literal(clauses)


def lone_literal(clauses):
    """Of the literals that are there but their opposites are not, that of the least variable; or None."""
    there = {}
    for clause in clauses:
        for literal in clause:
            there[literal] = True
    return min([literal for literal in there if -literal not in there], key=abs, default=None)


def lifted(variables, literals, model):
    """The model of a formula, from the literals kept and a model of what is left."""
    # The literals kept come last, so they hold whatever the model says of their variables.
    truths = truths_of(list(model) + list(literals))
    return tuple([truths.get(variable, -variable) for variable in range(1, variables + 1)])


def implied(clauses, clause, variables):
    """Whether every model of a formula makes a clause true."""
    against = [(-literal,) for literal in clause]
    return solved(variables, clauses + against)[0] is None
