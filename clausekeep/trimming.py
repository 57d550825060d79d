"""Refutations, cut down to what they need."""

from clausekeep.checking import Keeper
from clausekeep.errors import NoRefutation


def trimmed(variables, clauses, steps):
    """The steps of a refutation that are wanted, in their order; NotRight, NoRefutation."""
    needed = up_to_empty(variables, clauses, steps)
    wanted = wanted_in(needed)
    return needed if wanted is None else [step for step in needed if step[1] in wanted]


def core(variables, clauses, steps):
    """The numbers of the formula's clauses that a refutation wants, rising; NotRight, NoRefutation."""
    wanted = wanted_in(up_to_empty(variables, clauses, steps))
    return [number for number in range(1, len(clauses) + 1) if wanted is None or number in wanted]


def up_to_empty(variables, clauses, steps):
    """The steps of a refutation up to the one that adds the empty clause; NotRight, NoRefutation."""
    keeper = Keeper(variables, clauses)
    needed = []
    for step in steps:
        if not keeper.refuted:
            keeper.take(step)
            needed.append(step)
    if not keeper.refuted:
        raise NoRefutation("the steps do not come to the empty clause")
    return needed


def wanted_in(steps):
    """The numbers that steps up to the empty clause want, as a dict of True; None where all are to stay.

    All stay where clauses are dropped or hints are below nought: what such steps rest on, their hints do not tell.
    """
    if not all([has_plain_hints(step) for step in steps]):
        return None
    wanted = {steps[-1][1]: True}
    for step in reversed(steps):
        if step[1] in wanted:
            wanted.update(dict([(hint, True) for hint in step[3] if hint < step[1]]))
    return wanted


def has_plain_hints(step):
    """Whether a step adds by hints above nought alone."""
    return step[0] == "add" and all([hint > 0 for hint in step[3]])
