"""Powers told back: which things, and how many, have a thing as their power."""

from whoacts.arithmetic import inverse_modulo, product_over, subsets_of
from whoacts.tablelooks import moved_by, movers_in
from whoacts.tableneeds import need_positive, need_table
from whoacts.thingneeds import need_thing
from whoacts.thingwork import factors_at, moving_in, nought_in, series_modulo


def root_count(table, thing, k):
    """Return how many things have this thing as their power to k."""
    need_table(table)
    need_thing(table, thing)
    need_positive(k)
    return count_roots(table, thing, k)


def any_root(table, thing, k):
    """Return any thing that has this thing as its power to k, None if there is none."""
    need_table(table)
    need_thing(table, thing)
    need_positive(k)
    if count_roots(table, thing, k) == 0:
        return None
    # What is free is left 0: if any other choice gives a root, then so does this one.
    rests = [root_rest(x, 1, k, prime) for prime, x in zip(table[0], thing)]
    factors = factors_at(table, rests)
    return tuple([root_rest(x, factors[prime], k, prime) for prime, x in zip(table[0], thing)])


def nought_roots(table, k):
    """Return how many things have nought as their power to k."""
    need_table(table)
    need_positive(k)
    return count_roots(table, nought_in(table), k)


def root_rest(rest, factor, k, prime):
    """Return the rest, 0 if it is free, of a thing with this factor whose power to k has the rest told."""
    series = series_modulo(factor, k, prime)
    if series == 0:
        return 0
    return rest * inverse_modulo(series, prime) % prime


def count_roots(table, thing, k):
    """Return how many things have this thing as their power to k."""
    free = [mover for mover in movers_in(table) if k % mover == 0]
    held = moving_in(table, thing)
    if any([mover in held for mover in free]):
        return 0
    # At the movers that divide k any rest leads to 0; elsewhere a root has the rest 0 where the thing has it.
    return sum([count_moved_so(table, thing, k, held, chosen) for chosen in subsets_of(free)])


def count_moved_so(table, thing, k, held, chosen):
    """Return how many of the roots have, of the movers that divide k, just at the chosen ones a rest not 0.

    The movers at which the thing's rest is not 0 are held: where one of these moves a prime, a root has just one rest.
    """
    movers = movers_in(table)
    settled = moved_by(table, held)
    cleared = moved_by(table, chosen)
    counts = [mover - 1 for mover in chosen]
    for prime, rest in zip(table[0], thing):
        if prime not in movers and prime not in settled and (k % prime == 0 or prime in cleared):
            counts.append(prime if rest == 0 else 0)
    return product_over(counts)
