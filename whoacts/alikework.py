"""Parts of tables alike to other tables, counted, for tables that are known to be tables: nothing is checked here."""

from whoacts.countwork import count_parts
from whoacts.likework import is_alike
from whoacts.tablelooks import cut


def has_alike(table, other):
    """Return whether some part of the table is alike to the other one."""
    if any([prime not in table[0] for prime in other[0]]):
        return False
    # All parts with the same primes are alike, and are the group of the table cut to these.
    return is_alike(cut(table, other[0]), other)


def count_alike(table, other):
    """Return how many parts of the table are alike to the other one."""
    return count_parts(table, other[0]) if has_alike(table, other) else 0
