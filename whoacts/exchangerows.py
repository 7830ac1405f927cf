"""Rows of things that can all be exchanged."""

from whoacts.arithmetic import power_exact, product_over, subsets_of
from whoacts.errors import NotUsable
from whoacts.partwork import least_part
from whoacts.tablelooks import moved_by, movers_in
from whoacts.tableneeds import need_number, need_table
from whoacts.thingneeds import need_all_things
from whoacts.wholeparts import still_part

LONGEST_ROW = 8


def exchanged_rows(table, k):
    """Return how many rows of k things there are, of which each two can be exchanged."""
    need_table(table)
    need_number(k, "k")
    if k > LONGEST_ROW:
        raise NotUsable("k", -1)
    return sum([count_rows_held(table, k, held) for held in subsets_of(movers_in(table))])


def count_rows_held(table, k, held):
    """Return how many of these rows have a rest that is not 0 just at the movers held."""
    movers = movers_in(table)
    swept = moved_by(table, held)
    counts = [power_exact(mover, k) - 1 for mover in held]
    for prime in table[0]:
        if prime not in movers:
            # Where the factors are not all 1, all things of the row have one spot.
            counts.append(prime if prime in swept else power_exact(prime, k))
    return product_over(counts)


def exchanged_with(table, *things):
    """Return how many things can be exchanged with each of the things."""
    need_table(table)
    need_all_things(table, things)
    return product_over(still_part(table, least_part(table, things))[0])
