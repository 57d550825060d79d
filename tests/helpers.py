"""Formulas, and plain looks at all truths, for several tests."""

import itertools
import random


def models_of(variables, clauses):
    """All models in their order, by a look at all truths."""
    pairs = [(-variable, variable) for variable in range(1, variables + 1)]
    return [model for model in itertools.product(*pairs) if all(set(clause) & set(model) for clause in clauses)]


def has_model(variables, clauses):
    return bool(models_of(variables, clauses))


def places(things, count):
    """So many things in so many places, no two in one."""
    def variable(thing, place):
        return thing * count + place + 1
    clauses = [tuple(variable(thing, place) for place in range(count)) for thing in range(things)]
    for place in range(count):
        for one, other in itertools.combinations(range(things), 2):
            clauses.append((-variable(one, place), -variable(other, place)))
    return things * count, clauses


def odd(variables):
    """Clauses that say that an odd number of variables is true."""
    signs = itertools.product((1, -1), repeat=len(variables))
    return [tuple(sign * variable for sign, variable in zip(row, variables))
            for row in signs if sum(sign < 0 for sign in row) % 2 == 0]


def even(variables):
    """Clauses that say that an even number of variables is true."""
    return odd((-variables[0],) + tuple(variables[1:]))


def every_sign(variables):
    """All clauses that have each variable once."""
    return list(itertools.product(*[(variable, -variable) for variable in variables]))


def drawn(chance, variables, count, longest):
    """A formula by chance, with literals twice, opposites and short clauses among its clauses."""
    literals = [sign * variable for variable in range(1, variables + 1) for sign in (1, -1)]
    clauses = []
    for number in range(count):
        length = chance.choice((0, 1, 2, 2, 3, 3, 3, longest)) if number else longest
        clauses.append(tuple(chance.choice(literals) for place in range(length if literals else 0)))
    return clauses


def drawn_wide(seed, variables, count):
    """A formula by chance of clauses of three variables each."""
    chance = random.Random(seed)
    return [tuple(chance.choice((1, -1)) * variable for variable in chance.sample(range(1, variables + 1), 3))
            for number in range(count)]
