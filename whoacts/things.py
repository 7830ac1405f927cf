"""Things of a table and their products."""

from whoacts.tableneeds import need_integer, need_prime_of, need_table
from whoacts.thingneeds import is_thing_of, need_all_things, need_thing
from whoacts.thingwork import back_to, factors_at, nought_in, order_in, raised_to, times


def is_thing(table, value):
    """Return whether any value is a thing of the table."""
    need_table(table)
    return is_thing_of(table, value)


def nought_of(table):
    """Return the thing with all rests 0."""
    need_table(table)
    return nought_in(table)


def product_of(table, *things):
    """Return the product of the things, in this order."""
    need_table(table)
    need_all_things(table, things)
    total = nought_in(table)
    for thing in things:
        total = times(table, total, thing)
    return total


def back_of(table, thing):
    """Return the back of the thing."""
    need_table(table)
    need_thing(table, thing)
    return back_to(table, thing)


def power_of(table, thing, k):
    """Return the power of the thing to the integer k."""
    need_table(table)
    need_thing(table, thing)
    need_integer(k)
    return raised_to(table, thing, k)


def order_of(table, thing):
    """Return the order of the thing."""
    need_table(table)
    need_thing(table, thing)
    return order_in(table, thing)


def factor_of(table, thing, prime):
    """Return the factor of the thing at a prime of the table."""
    need_table(table)
    need_thing(table, thing)
    need_prime_of(table, prime)
    return factors_at(table, thing)[prime]
