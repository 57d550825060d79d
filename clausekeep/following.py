"""Whether a clause follows from a table by hints."""

from clausekeep.clauses import has_both, opened, truths_of

# What a hint that is taken does.
ENDS = "ends"
GOES_ON = "goes on"
WRONG = "wrong"


def follows(table, clause, hints):
    """Whether a clause follows from a table by hints."""
    if has_both(clause):
        return True
    truths = truths_of([-literal for literal in clause])
    place = 0
    while place < len(hints) and hints[place] > 0:
        outcome = take_hint(table, truths, hints[place])
        if outcome != GOES_ON:
            return outcome == ENDS
        place += 1
    return clause != () and groups_hold(table, truths, clause[0], hints[place:])


def take_hint(table, truths, hint):
    """What a hint does; the literal that it makes true is added to the truths."""
    if hint not in table:
        return WRONG
    literals = opened(truths, table[hint])
    if literals == []:
        return ENDS
    if len(literals) > 1 or abs(literals[0]) in truths:
        return WRONG
    truths[abs(literals[0])] = literals[0]
    return GOES_ON


def groups_hold(table, truths, first, hints):
    """Whether hints are one group for each clause that has the opposite of the first literal, and each holds."""
    groups = groups_in(hints)
    opposed = [number for number in table if -first in table[number]]
    if sorted([group[0] for group in groups]) != sorted(opposed):
        return False
    return all([group_holds(table, truths, first, group) for group in groups])


def groups_in(hints):
    """The groups of hints, of which the first is below nought: pairs of a clause's number and the list behind it."""
    groups = []
    for hint in hints:
        if hint < 0:
            groups.append((-hint, []))
        else:
            groups[-1][1].append(hint)
    return groups


def group_holds(table, truths, first, group):
    """Whether a group holds under the truths so far, which stay as they are."""
    hints = group[1]
    more = dict(truths)
    for literal in table[group[0]]:
        if literal != -first:
            if more.get(abs(literal)) == literal:
                return hints == []
            more[abs(literal)] = -literal
    return last_ends(table, more, hints)


def last_ends(table, truths, hints):
    """Whether the last one of hints ends it, and none ahead of it."""
    for hint in hints[:-1]:
        if take_hint(table, truths, hint) != GOES_ON:
            return False
    return hints != [] and take_hint(table, truths, hints[-1]) == ENDS
