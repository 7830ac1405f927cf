"""Rows of things that make the whole of tables that are known to be tables: nothing is checked here."""

from whoacts.arithmetic import power_exact, product_over
from whoacts.tablelooks import moved_in


def count_rows_making(table, many):
    """Return how many tuples of so many things make the whole."""
    moved_ones = moved_in(table)
    # At a moved prime rows are left out whose things have one spot there; else those whose rests are all 0.
    # No things make nothing by this, too, as some prime is not moved; unless there is no prime.
    lost = [prime if prime in moved_ones else 1 for prime in table[0]]
    return product_over([power_exact(prime, many) - less for prime, less in zip(table[0], lost)])


def fewest_in(table):
    """Return the least number of things that make the whole."""
    if len(table[0]) == 0:
        return 0
    return 2 if len(table[1]) > 0 else 1
