"""Classes counted, and with them the pairs that can be exchanged."""

from whoacts.arithmetic import lowest_terms, product_over
from whoacts.classwork import classes_by_order, count_classes
from whoacts.tablelooks import still_in
from whoacts.tableneeds import need_table


def class_count(table):
    """Return how many classes there are."""
    need_table(table)
    return count_classes(table)


def classes_of(table):
    """Return the set of all triples (primes, size, number): so many classes of so many things of this order."""
    need_table(table)
    return tuple(classes_by_order(table))


def exchanged_pairs(table):
    """Return how many pairs of things can be exchanged."""
    need_table(table)
    return product_over(table[0]) * count_classes(table)


def chance_of(table):
    """Return the chance of exchanging, as a fraction."""
    need_table(table)
    return lowest_terms(count_classes(table), product_over(table[0]))


def centre_primes(table):
    """Return the set of the still primes."""
    need_table(table)
    return still_in(table)
