"""Things counted by their order."""

from whoacts.arithmetic import product_over, subsets_of
from whoacts.tablelooks import moved_by
from whoacts.tableneeds import need_primes_of, need_table


def things_of_order(table, primes):
    """Return how many things have the product of the primes as their order."""
    need_table(table)
    need_primes_of(table, primes)
    return count_of_order(table, primes)


def orders_of(table):
    """Return the set of all pairs (primes, number) of things_of_order for which the number is not 0."""
    need_table(table)
    pairs = [(primes, count_of_order(table, primes)) for primes in subsets_of(table[0])]
    return tuple([pair for pair in pairs if pair[1] > 0])


def count_of_order(table, primes):
    """Return how many things have the product of the primes as their order."""
    moved_ones = moved_by(table, primes)
    # A moved rest is free and does not count for the order; any other counts unless it is 0.
    if any([prime in moved_ones for prime in primes]):
        return 0
    return product_over([prime - 1 for prime in primes]) * product_over(moved_ones)
