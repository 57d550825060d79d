"""Models and refutations, searched for."""

from clausekeep.clauses import left_over, numbered, opened, truths_of


def solved(variables, clauses):
    """The pair of a model and an empty list, or of None and the list of steps of a refutation."""
    table = numbered(clauses)
    steps = []
    chosen = []
    while True:
        truths = truths_of(chosen)
        reasons = {}
        conflict = spread(table, truths, reasons)
        free = [variable for variable in range(1, variables + 1) if variable not in truths]
        if conflict is not None:
            step = learned(table, chosen, truths, reasons, conflict)
            clause = step[2]
            steps.append(step)
            if clause == ():
                return (None, steps)
            table[step[1]] = clause
            # Without the last choice that the clause speaks of, it makes the opposite of that choice true:
            # the same choices never come again, so the search ends.
            chosen = chosen[:chosen.index(-clause[-1])]
        elif free:
            chosen.append(-free[0])
        else:
            return (tuple([truths[variable] for variable in range(1, variables + 1)]), [])


def spread(table, truths, reasons):
    """Add to the truths all that clauses with one open literal make true, and these clauses' numbers to the reasons.

    The answer is the number of a clause that is false then, or None.
    """
    grown = True
    while grown:
        grown = False
        for number in table:
            literals = opened(truths, table[number])
            if literals == []:
                return number
            if len(literals) == 1 and abs(literals[0]) not in truths:
                truths[abs(literals[0])] = literals[0]
                reasons[abs(literals[0])] = number
                grown = True
    return None


def learned(table, chosen, truths, reasons, conflict):
    """The step that adds what a conflict teaches: that not all the choices that led to it are true."""
    needed = dict([(abs(literal), True) for literal in table[conflict]])
    hints = [conflict]
    # Truths stand in the order in which they came, so what made one true stands ahead of it.
    for variable in reversed(list(truths)):
        if variable in needed and variable in reasons:
            hints.append(reasons[variable])
            needed.update(dict([(abs(literal), True) for literal in table[reasons[variable]]]))
    clause = [-literal for literal in chosen if abs(literal) in needed]
    return ("add", len(table) + 1, tuple(clause), tuple(reversed(hints)))


def all_models(variables, clauses, most):
    """The models of a formula in their order, so many at most."""
    models = []
    # What is looked at next lies at the end: a variable's falsehood behind its truth.
    waiting = [((), clauses)]
    while waiting and len(models) < most:
        pair = waiting.pop()
        truths = pair[0]
        left = pair[1]
        variable = len(truths) + 1
        if () in left:
            continue
        if variable > variables:
            models.append(truths)
        else:
            waiting.append((truths + (variable,), left_over(left, variable)))
            waiting.append((truths + (-variable,), left_over(left, -variable)))
    return models
