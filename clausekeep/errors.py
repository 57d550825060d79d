"""The refusals of the program."""


class ClauseError(ValueError):
    """Any refusal."""


class NoFormula(ClauseError):
    """A text is no formula's; line is its first wrong line, counted from 1."""

    def __init__(self, line):
        ClauseError.__init__(self, f"line {line} is not a formula's")
        self.line = line


class NoStep(ClauseError):
    """A line writes no step."""


class NotRight(ClauseError):
    """A step is not right; place is how many steps were taken ahead of it."""

    def __init__(self, place):
        ClauseError.__init__(self, f"the step behind {place} steps is not right")
        self.place = place


class NoRefutation(ClauseError):
    """Steps that are all right do not come to the empty clause."""


class TooMany(ClauseError):
    """There are more variables or clauses than a book holds."""
