"""All plain counts of a table, and where those of two tables come apart."""

from whoacts.arithmetic import subsets_of
from whoacts.classcounts import classes_of, exchanged_pairs
from whoacts.countwork import count_parts, count_turnings, degrees_in, has_whole_part
from whoacts.orders import orders_of
from whoacts.tablelooks import pairs_in
from whoacts.tableneeds import need_table, need_table_beside


def counts_of(table):
    """Return the septuple (parts, wholes, orders, classes, pairs, degrees, turnings)."""
    need_table(table)
    divisors = subsets_of(table[0])
    parts = tuple([(primes, count_parts(table, primes)) for primes in divisors])
    wholes = tuple([(primes, 1) for primes in divisors if has_whole_part(table, primes)])
    return (parts, wholes, orders_of(table), classes_of(table), exchanged_pairs(table), degrees_in(table),
            count_turnings(table))


def counts_alike(table, other):
    """Return whether all plain counts of both tables are the same."""
    return first_apart(table, other) is None


def first_apart(table, other):
    """Return the least pair (mover, moved) of one web alone, whichever of both; None if there is none."""
    need_table(table)
    need_table_beside(table, other)
    web = pairs_in(table)
    late = pairs_in(other)
    alone = [pair for pair in web if pair not in late] + [pair for pair in late if pair not in web]
    return min(alone, default=None)
