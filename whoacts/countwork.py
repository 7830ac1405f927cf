"""Counts of tables that are known to be tables: nothing is checked here."""

from whoacts.arithmetic import product_over, subsets_of
from whoacts.classwork import classes_by_order
from whoacts.partwork import spot_primes
from whoacts.tablelooks import moved_in, movers_in, moving, unmoving_in


def count_parts(table, primes):
    """Return how many parts have just these primes: as many as there are choices of spots."""
    return product_over(spot_primes(table, primes))


def has_whole_part(table, primes):
    """Return whether there is a whole part with just these primes."""
    return len(spot_primes(table, primes)) == 0


def count_turnings(table):
    """Return how many turnings a table has."""
    return product_over([prime - 1 for prime in unmoving_in(table)]) * product_over(moved_in(table))


def sums_by_size(pairs):
    """Return the set of pairs (size, number) in which the numbers of a list of such pairs are added up by size."""
    sums = {}
    for size, number in pairs:
        sums[size] = sums.get(size, 0) + number
    return tuple(sorted(list(sums.items())))


def degrees_in(table):
    """Return the set of all pairs (degree, number) of a table."""
    movers = movers_in(table)
    pairs = []
    for primes in subsets_of(unmoving_in(table)):
        degree = product_over(moving(table, primes))
        number = product_over([prime - 1 for prime in primes]) // degree * (product_over(movers) // degree)
        pairs.append((degree, number))
    return sums_by_size(pairs)


def sizes_in(table):
    """Return the set of all pairs (size, number): so many things are in classes of this size."""
    return sums_by_size([(size, size * number) for _, size, number in classes_by_order(table)])
