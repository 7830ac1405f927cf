"""The number, the web and the primes of a table."""

from whoacts.arithmetic import product_over
from whoacts.tablelooks import moved_in, movers_in, pairs_in, row_in, still_in
from whoacts.tableneeds import need_mover_of, need_table


def number_of(table):
    """Return the product of the primes of the table."""
    need_table(table)
    return product_over(table[0])


def web_of(table):
    """Return the set of the pairs (mover, moved) of the table."""
    need_table(table)
    return pairs_in(table)


def movers_of(table):
    """Return the set of the movers of the table."""
    need_table(table)
    return movers_in(table)


def moved_of(table):
    """Return the set of the moved primes of the table."""
    need_table(table)
    return moved_in(table)


def still_of(table):
    """Return the set of the still primes of the table."""
    need_table(table)
    return still_in(table)


def row_of(table, mover):
    """Return the row of the mover, as it stands in the table."""
    need_table(table)
    need_mover_of(table, mover)
    return row_in(table, mover)
