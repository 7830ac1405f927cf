"""Parts side by side: which lie in which, which are turned into which, and chains of them."""

from whoacts.arithmetic import product_over
from whoacts.partneeds import need_part
from whoacts.partwork import meet_parts, part_with
from whoacts.tablelooks import moved_in, movers_in
from whoacts.tableneeds import need_table


def need_two_parts(table, part, other):
    """Refuse the first of three values that is no table, or tells no part of it."""
    need_table(table)
    need_part(table, part)
    need_part(table, other, "other")


def lies_in(table, part, other):
    """Return whether each thing of the part is one of other."""
    need_two_parts(table, part, other)
    return meet_parts(table, part, other) == part


def part_turner(table, part, other):
    """Return any thing by which the part, turned, is other; None if there is none."""
    need_two_parts(table, part, other)
    if part[0] != other[0]:
        return None
    # With rests 0 at all movers a thing turns each spot by its rest there alone.
    steps = dict([(prime, late - spot) for (prime, spot), (_, late) in zip(part[1], other[1])])
    return tuple([steps.get(prime, 0) % prime for prime in table[0]])


def how_many_turned(table, part):
    """Return how many parts are made of the part by turning it by all things."""
    need_table(table)
    need_part(table, part)
    return product_over([prime for prime, _ in part[1]])


def greatest_parts(table):
    """Return the set of the parts, not of all things, that lie in no other such one."""
    need_table(table)
    found = []
    for prime in table[0]:
        others = tuple([late for late in table[0] if late != prime])
        spots = list(range(prime)) if prime in moved_in(table) else [0]
        found.extend([part_with(table, others, {prime: spot}) for spot in spots])
    return tuple(sorted(found))


def chain_to(table, part):
    """Return any tuple of parts from that of nought to the part, each with one prime more than the one before."""
    need_table(table)
    need_part(table, part)
    # Movers come last: what they move is there by then, or has its spot.
    movers = movers_in(table)
    steps = [prime for prime in part[0] if prime not in movers] + [prime for prime in part[0] if prime in movers]
    chosen = [tuple(sorted(steps[:k])) for k in range(len(steps) + 1)]
    return tuple([part_with(table, primes, dict(part[1])) for primes in chosen])
