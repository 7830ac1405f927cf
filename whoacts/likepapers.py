"""Papers that tell why two tables are alike, or why they are not."""

from whoacts.likeness import likeness_of
from whoacts.likework import first_unlike_row, first_unlike_web


def alike_paper(table, other):
    """Return any paper that lets_alike accepts for two tables."""
    images = likeness_of(table, other)
    if images is not None:
        return ("alike", images)
    if table[0] != other[0]:
        return ("primes",)
    mover = first_unlike_web(table, other)
    if mover is not None:
        return ("web", mover)
    return ("row", first_unlike_row(table, other))
