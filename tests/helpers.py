"""Formulas, and plain looks at all truths, for several tests."""

import itertools
import random


def models_of(variables, clauses):
    """All models in their order, by a look at all truths."""
    pairs = [(-variable, variable) for variable in range(1, variables + 1)]
    return [model for model in itertools.product(*pairs) if all(set(clause) & set(model) for clause in clauses)]


def has_model(variables, clauses):
    return bool(models_of(variables, clauses))


def places(things, count):
    """So many things in so many places, no two in one."""
    def variable(thing, place):
        return thing * count + place + 1
    clauses = [tuple(variable(thing, place) for place in range(count)) for thing in range(things)]
    for place in range(count):
        for one, other in itertools.combinations(range(things), 2):
            clauses.append((-variable(one, place), -variable(other, place)))
    return things * count, clauses


def odd(variables):
    """Clauses that say that an odd number of variables is true."""
    signs = itertools.product((1, -1), repeat=len(variables))
    return [tuple(sign * variable for sign, variable in zip(row, variables))
            for row in signs if sum(sign < 0 for sign in row) % 2 == 0]


def even(variables):
    """Clauses that say that an even number of variables is true."""
    return odd((-variables[0],) + tuple(variables[1:]))


def every_sign(variables):
    """All clauses that have each variable once."""
    return list(itertools.product(*[(variable, -variable) for variable in variables]))


def drawn(chance, variables, count, longest):
    """A formula by chance, with literals twice, opposites and short clauses among its clauses."""
    literals = [sign * variable for variable in range(1, variables + 1) for sign in (1, -1)]
    clauses = []
    for number in range(count):
        length = chance.choice((0, 1, 2, 2, 3, 3, 3, longest)) if number else longest
        clauses.append(tuple(chance.choice(literals) for place in range(length if literals else 0)))
    return clauses


def drawn_wide(seed, variables, count):
    """A formula by chance of clauses of three variables each."""
    chance = random.Random(seed)
    return [tuple(chance.choice((1, -1)) * variable for variable in chance.sample(range(1, variables + 1), 3))
            for number in range(count)]


# Formulas without a model, up to the bounds and somewhat beyond.
WITHOUT = {
    "no variables": (0, [()]),
    "the empty clause alone": (12, [()]),
    "the empty clause last": (3, [(1, 2), (-3,), ()]),
    "the empty clause twice": (1, [(), ()]),
    "the empty clause first": (1, [(), (1,), (-1,)]),
    "opposites": (1, [(1,), (-1,)]),
    "literals twice": (1, [(1, 1), (-1, -1, -1)]),
    "literals twice, opposites": (2, [(1, -1), (2, 2, 1), (-2, 1, -2), (2, -2, 2), (-1, -1)]),
    "four": (2, [(1, 2), (-1, 2), (1, -2), (-1, -2)]),
    "variables in no clause": (12, [(5, 9), (-5, 9), (5, -9), (-5, -9)]),
    "a row": (12, [(1,)] + [(-variable, variable + 1) for variable in range(1, 12)] + [(-12,)]),
    "a row backwards": (12, [(-12,)] + [(-variable, variable + 1) for variable in range(11, 0, -1)] + [(1,)]),
    "two things in one place": places(2, 1),
    "three things in two places": places(3, 2),
    "four things in three places": places(4, 3),
    "six things in two places": places(6, 2),
    "five things in four places": places(5, 4),
    "every sign of three": (3, every_sign((1, 2, 3))),
    "every sign of five": (5, every_sign((1, 2, 3, 4, 5))),
    "every sign of five, the last ones": (12, every_sign((8, 9, 10, 11, 12))),
    "every sign of six": (12, every_sign((2, 4, 6, 8, 10, 12))),
    "odd and even": (5, odd((1, 2, 3, 4, 5)) + even((5, 4, 3, 2, 1))),
    "a ring of odd ones": (12, [clause for place in range(13) for clause in
                                (odd if place == 12 else even)((1 + place % 12, 1 + (place + 1) % 12))]
                           + even((1, 2))),
    "rings of three": (12, [clause for place in range(12) for clause in
                            odd((1 + place, 1 + (place + 1) % 12, 1 + (place + 5) % 12))]
                       + [(1,), (-2, -3), (4, 6), (-7, 8, 9), (-10, 11), (-12, 5), (-4, -5), (-6,)]),
}

# Formulas with a model.
WITH = {
    "nothing at all": (0, []),
    "no clauses": (12, []),
    "one variable": (1, [(1,)]),
    "one variable, false": (1, [(-1,)]),
    "opposites in a clause": (2, [(1, -1), (2, -2, 1)]),
    "literals twice": (2, [(1, 1), (-2, -2, -1)]),
    "variables in no clause": (12, [(5, 9), (-5, 9), (5, -9)]),
    "a row": (12, [(1,)] + [(-variable, variable + 1) for variable in range(1, 12)]),
    "three things in three places": places(3, 3),
    "three things in four places": places(3, 4),
    "four things in four places": places(4, 4),
    "every sign but one": (5, every_sign((1, 2, 3, 4, 5))[1:]),
    "every sign but the last": (12, every_sign((12, 11, 10, 9, 8))[:-1]),
    "odd": (6, odd((1, 2, 3, 4, 5, 6))),
    "sixty of twelve": (12, every_sign(range(1, 13))[:60]),
    "seventy of fourteen": (14, every_sign(range(14, 0, -1))[-70:]),
}
