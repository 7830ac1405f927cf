"""Parts of a table that are alike to another table."""

from whoacts.alikework import count_alike, has_alike
from whoacts.mapneeds import need_two_tables
from whoacts.partwork import part_with, spot_primes


def parts_alike(table, other):
    """Return how many parts of the table are alike to other."""
    need_two_tables(table, other)
    return count_alike(table, other)


def part_alike(table, other):
    """Return any part of the table that is alike to other; None if there is none."""
    need_two_tables(table, other)
    if not has_alike(table, other):
        return None
    return part_with(table, other[0], dict([(prime, 0) for prime in spot_primes(table, other[0])]))
