"""What several modules ask of the things that are handed in."""

SIGNS = "0123456789"


def within(number, least, most):
    """Whether number is a whole number from least to most."""
    # True and False are ints to Python, but no whole numbers here.
    return not isinstance(number, bool) and least <= number <= most


def are_figures(text):
    """Whether each sign of a text is a figure (so of the text without signs, too)."""
    # Not isdigit: that takes digits of other scripts as well.
    return all([sign in SIGNS for sign in text])


def short_number(word):
    """The number that one or two figures tell, the first of two no 0; None of any other text."""
    if len(word) not in (1, 2) or not are_figures(word):
        return None
    if len(word) == 2 and word[0] == "0":
        return None
    return int(word)
