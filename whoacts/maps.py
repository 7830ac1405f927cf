"""Units, and which tuples of things tell maps."""

from whoacts.mapneeds import need_two_tables
from whoacts.mapwork import tells_map, units_in
from whoacts.tableneeds import need_table


def units_of(table):
    """Return the tuple of the units: for each prime the thing with the rest 1 there, and 0 at all others."""
    need_table(table)
    return units_in(table)


def is_map(table, other, value):
    """Return whether any value tells a map from the table to other."""
    need_two_tables(table, other)
    return tells_map(table, other, value)
