"""Clauses under truths."""


def numbered(clauses):
    """The table of a formula's clauses: each by its number, from 1 on."""
    return dict(enumerate(clauses, start=1))


def truths_of(literals):
    """The truths in which literals are true: for each variable its true literal, in their order."""
    return dict([(abs(literal), literal) for literal in literals])


def opened(truths, clause):
    """The literals of a clause that are not false, each once, in their order."""
    found = {}
    for literal in clause:
        if truths.get(abs(literal)) != -literal:
            found[literal] = True
    return list(found)


def has_both(clause):
    """Whether a literal and its opposite are in a clause."""
    seen = {}
    for literal in clause:
        if -literal in seen:
            return True
        seen[literal] = True
    return False


def satisfied(clauses, model):
    """Whether a model makes all clauses true."""
    return all([is_true(clause, model) for clause in clauses])


def is_true(clause, model):
    """Whether one of a clause's literals is among the true ones."""
    return any([literal in model for literal in clause])


def left_over(clauses, literal):
    """What clauses still ask for where a literal is true."""
    return [without(clause, -literal) for clause in clauses if literal not in clause]


def without(clause, literal):
    """A clause without one of the literals."""
    return tuple([other for other in clause if other != literal])
