"""Words that write whole numbers."""

FIGURES = "0123456789"
MOST_FIGURES = 9


def number_in(word):
    """The whole number that a word writes, or None."""
    if word == "0":
        return 0
    figures = word[1:] if word.startswith("-") else word
    return int(word) if are_figures(figures) else None


def are_figures(signs):
    """Whether signs are one to nine figures, the first not 0."""
    if signs == "" or signs.startswith("0") or len(signs) > MOST_FIGURES:
        return False
    # isdigit would take the figures of other scripts too.
    return all([sign in FIGURES for sign in signs])
