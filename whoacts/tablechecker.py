"""The checker of tables."""

from whoacts.errors import InvalidPaper
from whoacts.kinds import table_fault


def lets_table(value):
    """Return how many primes a table has; InvalidPaper tells why any other value is none."""
    fault = table_fault(value)
    if fault is not None:
        word, at = fault
        raise InvalidPaper(word, at)
    return len(value[0])
