"""Webs with given primes: what fits, the needs of functions of such, and the least table of a web."""

from whoacts.arithmetic import power_modulo
from whoacts.errors import NotUsable
from whoacts.kinds import is_ascending, is_prime, is_web

MOST_PRIMES = 8


def need_prime_set(primes):
    """Refuse any value that is no set of at most eight primes below ten thousand."""
    if not isinstance(primes, tuple) or len(primes) > MOST_PRIMES or not all([is_prime(prime) for prime in primes]):
        raise NotUsable("primes", -1)
    if not is_ascending(primes):
        raise NotUsable("primes", -1)


def is_web_with(primes, value):
    """Return whether any value is the web of some table with these primes."""
    return is_web(value) and all([mover in primes and moved in primes for mover, moved in value])


def need_web(primes, web):
    """Refuse any value that is no web of a table with these primes."""
    if not is_web_with(primes, web):
        raise NotUsable("web", -1)


def rows_by_mover(web):
    """Return a dict that gives each mover of a web the list of the primes that it moves."""
    rows = {}
    for mover, moved in web:
        rows[mover] = rows.get(mover, []) + [moved]
    return rows


def least_table(primes, web):
    """Return the table with these primes and this web each of whose roots is the least one."""
    rows = rows_by_mover(web)
    moves = [(mover, tuple([(moved, least_root(mover, moved)) for moved in row])) for mover, row in rows.items()]
    return (primes, tuple(moves))


def least_root(mover, moved):
    """Return the least root by which one prime can move the other one."""
    return min(all_roots(mover, moved))


def all_roots(mover, moved):
    """Return the list of the roots by which one prime can move the other one."""
    # All roots are powers of any one of them, and this power of most bases is one.
    base = 2
    while power_modulo(base, (moved - 1) // mover, moved) == 1:
        base += 1
    return powers_of(power_modulo(base, (moved - 1) // mover, moved), mover, moved)


def powers_of(root, mover, moved):
    """Return the list of the powers of a root by numbers from 1 on, less than the mover."""
    powers = [root]
    while len(powers) < mover - 1:
        powers.append(powers[-1] * root % moved)
    return powers
