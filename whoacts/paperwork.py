"""What all checkers of papers that begin with a word share."""


def word_of(paper):
    """Return the string with which any value, a tuple, begins; None for any other value."""
    if isinstance(paper, tuple) and len(paper) > 0 and isinstance(paper[0], str):
        return paper[0]
    return None
