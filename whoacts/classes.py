"""Classes of things: what a thing can be turned into."""

from whoacts.arithmetic import product_over
from whoacts.classwork import least_turned, size_of_class, turner_to
from whoacts.exchanging import need_two_things
from whoacts.tableneeds import need_table
from whoacts.thingneeds import need_thing


def class_size(table, thing):
    """Return how many things are of the class of the thing."""
    need_table(table)
    need_thing(table, thing)
    return size_of_class(table, thing)


def exchange_count(table, thing):
    """Return how many things can be exchanged with the thing."""
    need_table(table)
    need_thing(table, thing)
    return product_over(table[0]) // size_of_class(table, thing)


def in_one_class(table, thing, other):
    """Return whether both things are of one class."""
    need_two_things(table, thing, other)
    return turner_to(table, thing, other) is not None


def turner_of(table, thing, other):
    """Return any thing by which the thing, turned, is other; None if there is none."""
    need_two_things(table, thing, other)
    return turner_to(table, thing, other)


def class_form(table, thing):
    """Return the least thing of the class of the thing."""
    need_table(table)
    need_thing(table, thing)
    return least_turned(table, thing)
