"""Turnings: maps from a table to itself that are one to one and onto."""

from whoacts.arithmetic import inverse_modulo
from whoacts.classwork import merged, powers_at
from whoacts.errors import NotUsable
from whoacts.kinds import is_integer_pair
from whoacts.mapwork import is_exact, tells_map, units_in
from whoacts.tablelooks import moved_in, roots_at, row_in, unmoving_in
from whoacts.tableneeds import need_table
from whoacts.thingneeds import need_thing
from whoacts.thingwork import turn


def turning_of(table, factors, shifts):
    """Return the images of the turning that these factors and shifts tell."""
    need_table(table)
    if not are_pairs(unmoving_in(table), factors, 1):
        raise NotUsable("factors", -1)
    if not are_pairs(moved_in(table), shifts, 0):
        raise NotUsable("shifts", -1)
    factor_at = dict(factors)
    shift_at = dict(shifts)
    return tuple([turned_unit(table, prime, factor_at, shift_at) for prime in table[0]])


def are_pairs(primes, value, least):
    """Return whether any value is a tuple of pairs of these primes, in order, and numbers less than these.

    The numbers are at least the least one.
    """
    if not isinstance(value, tuple) or len(value) != len(primes):
        return False
    return all([is_integer_pair(pair) and pair[0] == prime and least <= pair[1] < prime
                for prime, pair in zip(primes, value)])


def turned_unit(table, prime, factor_at, shift_at):
    """Return what the unit of a prime goes to, by dicts of the factors and the shifts."""
    rests = {prime: factor_at.get(prime, 1)}
    for moved, root in row_in(table, prime):
        rests[moved] = (1 - root) * shift_at[moved] % moved
    return tuple([rests.get(late, 0) for late in table[0]])


def told_turning(table, images):
    """Return the pair (factors, shifts) of a turning of the table."""
    need_table(table)
    need_turning(table, images)
    return told_in(table, images)


def need_turning(table, images):
    """Refuse any value that tells no turning of the table."""
    if not tells_map(table, table, images) or not is_exact(table, table, images):
        raise NotUsable("images", -1)


def told_in(table, images):
    """Return the pair (factors, shifts) of a turning."""
    rests_of = dict([(prime, dict(zip(table[0], image))) for prime, image in zip(table[0], images)])
    factors = tuple([(prime, rests_of[prime][prime]) for prime in unmoving_in(table)])
    shifts = []
    for moved in moved_in(table):
        # All movers of a prime tell the same shift.
        mover, root = roots_at(table, moved)[0]
        shifts.append((moved, rests_of[mover][moved] * inverse_modulo(1 - root, moved) % moved))
    return (factors, tuple(shifts))


def inner_by(table, thing):
    """Return the images of the turning that leads each thing to what it is, turned by this thing."""
    need_table(table)
    need_thing(table, thing)
    return tuple([turn(table, unit, thing) for unit in units_in(table)])


def is_inner(table, images):
    """Return whether a turning of the table leads each thing to what it is, turned by some thing."""
    need_table(table)
    need_turning(table, images)
    factors, _ = told_in(table, images)
    # The rests of such a thing at moved primes bring any shifts, and those at movers the factors.
    return merged([powers_at(table, prime, factor) for prime, factor in factors]) is not None
