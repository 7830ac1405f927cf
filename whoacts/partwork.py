"""Work on parts that are known to be parts: nothing is checked here."""

from whoacts.arithmetic import inverse_modulo
from whoacts.tablelooks import moved_by, row_in
from whoacts.thingwork import factors_at


def spot_primes(table, primes):
    """Return the moved ones of a set of primes that are not in it: those at which a part has spots."""
    return tuple([prime for prime in moved_by(table, primes) if prime not in primes])


def part_with(table, primes, spots):
    """Return the part with these primes and, of a dict, the spots where it has some."""
    return (primes, tuple([(prime, spots[prime]) for prime in spot_primes(table, primes)]))


def put_into(table, part, thing):
    """Return the thing of the part that has the rests of any thing at the primes of the part."""
    primes, spots = part
    factors = factors_at(table, [x if prime in primes else 0 for prime, x in zip(table[0], thing)])
    spot_at = dict(spots)
    rests = []
    for prime, x in zip(table[0], thing):
        spot = spot_at.get(prime, 0)
        rests.append(x if prime in primes else (spot - factors[prime] * spot) % prime)
    return tuple(rests)


def has_thing(table, part, thing):
    """Return whether a thing is one of a part."""
    return put_into(table, part, thing) == thing


def first_outside(table, part, things):
    """Return the least index of a thing, of a tuple of things, that is none of a part; None if there is none."""
    for k, thing in enumerate(things):
        if not has_thing(table, part, thing):
            return k
    return None


def things_in(table, part):
    """Return the set of the things of the part."""
    choices = [()]
    for prime in table[0]:
        rests = list(range(prime)) if prime in part[0] else [0]
        choices = [choice + (rest,) for choice in choices for rest in rests]
    return tuple(sorted([put_into(table, part, choice) for choice in choices]))


def least_part(table, things):
    """Return the least part that holds all these things, a tuple of things."""
    factors = [factors_at(table, thing) for thing in things]
    primes = []
    spots = {}
    for at, prime in enumerate(table[0]):
        spot = common_spot([(thing[at], held[prime]) for thing, held in zip(things, factors)], prime)
        # At a mover all factors are 1, so there is no such number exactly if some rest is not 0.
        if spot is None:
            primes.append(prime)
        else:
            spots[prime] = spot
    return part_with(table, tuple(primes), spots)


def common_spot(places, prime):
    """Return a number c so that each of the pairs (rest, factor) has the rest c less its factor times c, or None."""
    spots = [x * inverse_modulo(1 - factor, prime) % prime for x, factor in places if factor != 1]
    spot = spots[0] if len(spots) > 0 else 0
    if all([(spot - factor * spot - x) % prime == 0 for x, factor in places]):
        return spot
    return None


def clashes(part, other):
    """Return the list of the primes at which both parts have spots that differ."""
    late = dict(other[1])
    return [prime for prime, spot in part[1] if late.get(prime, spot) != spot]


def meet_parts(table, part, other):
    """Return the part of the things that both parts have."""
    apart = clashes(part, other)
    both = [prime for prime in part[0] if prime in other[0]]
    primes = [prime for prime in both if not any([moved in apart for moved, _ in row_in(table, prime)])]
    return part_with(table, tuple(primes), dict(part[1] + other[1]))


def join_parts(table, part, other):
    """Return the least part that holds the things of both parts."""
    found = part[0] + other[0] + tuple(clashes(part, other))
    primes = tuple([prime for prime in table[0] if prime in found])
    return part_with(table, primes, dict(part[1] + other[1]))


def turn_part(table, part, thing):
    """Return the part of the things of a part, turned by a thing."""
    rests = dict(zip(table[0], thing))
    factors = factors_at(table, thing)
    return (part[0], tuple([(prime, (rests[prime] + factors[prime] * spot) % prime) for prime, spot in part[1]]))
