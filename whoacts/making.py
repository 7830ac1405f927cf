"""Things that make the whole, and how many rows of things do."""

from whoacts.arithmetic import lowest_terms, power_exact, product_over
from whoacts.makework import count_rows_making, fewest_in
from whoacts.partwork import least_part
from whoacts.tablelooks import moved_in
from whoacts.tableneeds import need_number, need_table
from whoacts.thingneeds import need_tuple_of_things


def makes(table, things):
    """Return whether no part but that of all things holds all of these."""
    need_table(table)
    need_tuple_of_things(table, things)
    return least_part(table, things)[0] == table[0]


def rows_that_make(table, many):
    """Return how many tuples of so many things make the whole."""
    need_table(table)
    need_number(many, "many")
    return count_rows_making(table, many)


def chance_to_make(table, many):
    """Return the share of the tuples of so many things that make the whole, as a fraction."""
    need_table(table)
    need_number(many, "many")
    return lowest_terms(count_rows_making(table, many), power_exact(product_over(table[0]), many))


def fewest_makers(table):
    """Return the least number of things that make the whole."""
    need_table(table)
    return fewest_in(table)


def makers_of(table):
    """Return any tuple of as few things as make the whole."""
    need_table(table)
    moved_ones = moved_in(table)
    first = tuple([0 if prime in moved_ones else 1 for prime in table[0]])
    makers = (first, tuple([1 - rest for rest in first]))
    return makers[:fewest_in(table)]
