"""Pairs of things counted by their exchanger, and by the power that a product is twisted to."""

from whoacts.arithmetic import product_over, subsets_of
from whoacts.classwork import classes_by_order, merged, powers_at
from whoacts.tablelooks import moved_by, movers_in
from whoacts.tableneeds import need_number, need_table
from whoacts.thingneeds import need_thing


def exchanger_pairs(table, thing):
    """Return how many pairs of things have this thing as their exchanger."""
    need_table(table)
    need_thing(table, thing)
    return sum([count_pairs_held(table, thing, held) for held in subsets_of(movers_in(table))])


def count_pairs_held(table, thing, held):
    """Return how many of these pairs have a rest that is not 0 just at the movers held."""
    movers = movers_in(table)
    swept = moved_by(table, held)
    counts = [mover * mover - 1 for mover in held]
    for prime, rest in zip(table[0], thing):
        if prime in swept:
            counts.append(prime)
        elif rest != 0:
            counts.append(0)
        elif prime not in movers:
            counts.append(prime * prime)
    return product_over(counts)


def twisted_count(table, r):
    """Return how many pairs of things x, y there are for which x y is y to the power r times x."""
    need_table(table)
    need_number(r, "r")
    return count_twisted(table, r)


def count_twisted(table, r):
    """Return how many pairs of things x, y there are for which x y is y to the power r times x."""
    # Such an x is there for just those y of which the power is of their own class: as many as stay with y.
    powers = dict([(prime, powers_at(table, prime, r % prime)) for prime in table[0]])
    kept = [row[2] for row in classes_by_order(table) if merged([powers[prime] for prime in row[0]]) is not None]
    return product_over(table[0]) * sum(kept)
