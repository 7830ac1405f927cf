"""Parts made of things and of other parts."""

from whoacts.partneeds import need_part
from whoacts.partwork import join_parts, least_part, meet_parts, turn_part
from whoacts.tableneeds import need_table
from whoacts.thingneeds import need_thing, need_tuple_of_things


def part_of(table, things):
    """Return the least part that holds all these things."""
    need_table(table)
    need_tuple_of_things(table, things)
    return least_part(table, things)


def meet_of(table, part, other):
    """Return the part of the things that both parts have."""
    need_table(table)
    need_part(table, part)
    need_part(table, other, "other")
    return meet_parts(table, part, other)


def join_of(table, part, other):
    """Return the least part that holds the things of both parts."""
    need_table(table)
    need_part(table, part)
    need_part(table, other, "other")
    return join_parts(table, part, other)


def turned_part(table, part, thing):
    """Return the part of all things of the part, turned by the thing."""
    need_table(table)
    need_part(table, part)
    need_thing(table, thing)
    return turn_part(table, part, thing)
