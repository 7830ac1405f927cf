"""Turned things, and which things can be exchanged."""

from whoacts.tableneeds import need_table
from whoacts.thingneeds import need_thing
from whoacts.thingwork import back_to, times, turn


def need_two_things(table, thing, other):
    """Refuse the first of three values that is no table, or no thing of it."""
    need_table(table)
    need_thing(table, thing)
    need_thing(table, other, "other")


def turned_by(table, thing, other):
    """Return other times the thing times the back of other."""
    need_two_things(table, thing, other)
    return turn(table, thing, other)


def are_exchanged(table, thing, other):
    """Return whether the two products of both things are one."""
    need_two_things(table, thing, other)
    return times(table, thing, other) == times(table, other, thing)


def exchanger_of(table, thing, other):
    """Return thing times other times the back of thing times the back of other."""
    need_two_things(table, thing, other)
    return times(table, turn(table, other, thing), back_to(table, other))
