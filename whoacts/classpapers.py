"""Papers that tell why two things are of one class, or of two."""

from whoacts.classwork import free_primes, is_away, powers_at, quotient, turner_to
from whoacts.exchanging import need_two_things
from whoacts.tablelooks import movers_in


def class_paper(table, thing, other):
    """Return any paper that lets_class accepts for two things."""
    need_two_things(table, thing, other)
    turner = turner_to(table, thing, other)
    if turner is not None:
        return ("same", turner)
    movers = movers_in(table)
    free = free_primes(table, thing)
    places = list(zip(table[0], thing, other))
    for prime, x, y in places:
        if prime in movers and x != y:
            return ("mover", prime)
    for prime, x, y in places:
        if prime in free and is_away(table, prime, x, y):
            return ("away", prime)
    return unlike_paper(table, [(prime, x, y) for prime, x, y in places if prime in free and x != 0])


def unlike_paper(table, places):
    """Return the paper of a mover and two primes, of triples (prime, rest, late), at which it has unlike powers."""
    first = {}
    for prime, x, y in places:
        for mover, power in powers_at(table, prime, quotient(x, y, prime)):
            ahead, known = first.get(mover, (prime, power))
            if known != power:
                return ("unlike", mover, ahead, prime)
            first[mover] = (ahead, power)
    return None
