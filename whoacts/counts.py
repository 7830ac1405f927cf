"""Parts, whole parts, degrees and turnings counted."""

from whoacts.arithmetic import subsets_of
from whoacts.countwork import count_parts, count_turnings, degrees_in, has_whole_part
from whoacts.tableneeds import need_primes_of, need_table


def part_count(table, primes):
    """Return how many parts have as many things as the product of the primes."""
    need_table(table)
    need_primes_of(table, primes)
    return count_parts(table, primes)


def whole_count(table, primes):
    """Return how many whole parts have as many things as the product of the primes."""
    need_table(table)
    need_primes_of(table, primes)
    return 1 if has_whole_part(table, primes) else 0


def all_parts(table):
    """Return how many parts there are."""
    need_table(table)
    return sum([count_parts(table, primes) for primes in subsets_of(table[0])])


def all_whole(table):
    """Return how many whole parts there are."""
    need_table(table)
    return len([primes for primes in subsets_of(table[0]) if has_whole_part(table, primes)])


def degrees_of(table):
    """Return the set of all pairs (degree, number): so many degrees of this size."""
    need_table(table)
    return degrees_in(table)


def turning_count(table):
    """Return how many turnings the table has."""
    need_table(table)
    return count_turnings(table)
