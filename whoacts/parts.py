"""Parts as they are told."""

from whoacts.arithmetic import product_over
from whoacts.partneeds import is_part_of, need_part
from whoacts.partwork import has_thing, things_in
from whoacts.tableneeds import need_table
from whoacts.thingneeds import need_thing


def is_part(table, value):
    """Return whether any value is a pair that tells a part of the table."""
    need_table(table)
    return is_part_of(table, value)


def size_of(table, part):
    """Return how many things the part has."""
    need_table(table)
    need_part(table, part)
    return product_over(part[0])


def holds(table, part, thing):
    """Return whether the thing is one of the part."""
    need_table(table)
    need_part(table, part)
    need_thing(table, thing)
    return has_thing(table, part, thing)


def things_of(table, part):
    """Return the set of the things of the part."""
    need_table(table)
    need_part(table, part)
    return things_in(table, part)
