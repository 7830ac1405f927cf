"""Webs, and the unlike tables that have them, counted."""

from whoacts.arithmetic import power_exact, product_over, subsets_of
from whoacts.kinds import can_move
from whoacts.webwork import is_web_with, least_table, need_prime_set, need_web, rows_by_mover


def fits_web(primes, web):
    """Return whether any value is the web of some table with these primes."""
    need_prime_set(primes)
    return is_web_with(primes, web)


def a_table(primes, web):
    """Return the table with these primes and this web each of whose roots is the least one."""
    need_prime_set(primes)
    need_web(primes, web)
    return least_table(primes, web)


def unlike_count(primes, web):
    """Return how many unlike tables have these primes and this web."""
    need_prime_set(primes)
    need_web(primes, web)
    return product_over([power_exact(mover - 1, len(row) - 1) for mover, row in rows_by_mover(web).items()])


def webs_of(primes):
    """Return the set of all webs of tables with these primes."""
    need_prime_set(primes)
    webs = [()]
    for mover in primes:
        for moved in primes:
            if can_move(mover, moved):
                webs = webs + [web + ((mover, moved),) for web in webs if may_join(web, mover, moved)]
    return tuple(sorted(webs))


def may_join(web, mover, moved):
    """Return whether a web with one pair more is one, too."""
    return not any([late == mover or early == moved for early, late in web])


def group_count(primes):
    """Return how many unlike tables with these primes there are."""
    need_prime_set(primes)
    return sum([count_with_movers(primes, movers) for movers in subsets_of(primes)])


def count_with_movers(primes, movers):
    """Return how many unlike tables with these primes have just these movers."""
    counts = []
    for mover in movers:
        reach = [prime for prime in primes if prime not in movers and can_move(mover, prime)]
        # A row is a choice of a power at each prime, not all 0, and mover less 1 of these are one up to a power.
        counts.append((power_exact(mover, len(reach)) - 1) // (mover - 1))
    return product_over(counts)
