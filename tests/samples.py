"""Tables to test with, those of the document and many more."""

import itertools

from tests import reference

SIX = ((2, 3), ((2, ((3, 2),)),))
TWO = ((3, 7, 13), ((3, ((7, 2), (13, 3))),))
TWIN = ((3, 7, 13), ((3, ((7, 2), (13, 9))),))
MIXED = ((2, 3, 5, 7, 11), ((2, ((5, 4), (7, 6))), (3, ((7, 2),))))
NONE = ((), ())
# Three movers on one prime, by roots of which no power to a divisor of the mover is 1.
THREE = ((2, 3, 5, 31), ((2, ((31, 30),)), (3, ((31, 5),)), (5, ((31, 2),))))
# One mover of three primes, and a mover of one of them.
WIDE = ((2, 3, 5, 7), ((2, ((3, 2), (5, 4), (7, 6))),))
# Two movers, each of the same two primes, by roots that are up to a power and that are not.
PAIRED = ((2, 3, 7, 13), ((2, ((7, 6), (13, 12))), (3, ((7, 2), (13, 3)))))
PARTED = ((2, 3, 7, 13), ((2, ((7, 6), (13, 12))), (3, ((7, 2), (13, 9)))))


def roots(mover, moved):
    """All roots by which one prime can move another one."""
    if (moved - 1) % mover != 0:
        return []
    return [root for root in range(2, moved) if pow(root, mover, moved) == 1]


def some_root(mover, moved, k=1):
    """The root that is the k-th power of the first one found."""
    for base in range(2, moved):
        root = pow(base, (moved - 1) // mover, moved)
        if root != 1:
            return pow(root, k, moved)
    raise AssertionError((mover, moved))


def table_of(primes, steps):
    """The table with these primes and triples (mover, moved, root)."""
    moves = []
    for mover in sorted({step[0] for step in steps}):
        moves.append((mover, tuple(sorted((moved, root) for p, moved, root in steps if p == mover))))
    return (tuple(primes), tuple(moves))


def webs(primes):
    """All webs of tables with these primes."""
    pairs = [(p, q) for p in primes for q in primes if p != q and (q - 1) % p == 0]
    for k in range(len(pairs) + 1):
        for chosen in itertools.combinations(pairs, k):
            if not {p for p, _ in chosen} & {q for _, q in chosen}:
                yield chosen


def all_tables(primes):
    """All tables with these primes."""
    tables = []
    for web in webs(primes):
        for chosen in itertools.product(*[roots(p, q) for p, q in web]):
            tables.append(table_of(primes, [(p, q, root) for (p, q), root in zip(web, chosen)]))
    return tables


SMALL_SETS = ((), (2,), (3,), (7,), (2, 3), (2, 5), (3, 5), (2, 7), (3, 7), (2, 3, 5), (2, 3, 7))
# All tables of at most 42 things with these primes, so every web of them and every root.
SMALL = tuple(table for primes in SMALL_SETS for table in all_tables(primes))
# Tables of up to 210 things: two movers on one prime, rows of several primes, roots of the mover 5.
MIDDLE = tuple(all_tables((2, 3, 11))[::2] + all_tables((3, 5, 7))[::2] + all_tables((2, 5, 11))[1::3] + [WIDE])


def great_table(primes, pairs, k=1):
    """The table of this web, each root the k-th power of the first one found."""
    return table_of(primes, [(p, q, some_root(p, q, k)) for p, q in pairs])


def other_roots(table, seed=1):
    """A table with the same web, by other roots where a mover has others."""
    moves = []
    for mover, row in table[1]:
        powers = [1 + (seed + k) % (mover - 1) for k in range(len(row))]
        moves.append((mover, tuple((q, pow(root, power, q)) for (q, root), power in zip(row, powers))))
    return (table[0], tuple(moves))


GREAT = (
    great_table((2, 3, 5, 9931, 9941, 9949, 9967, 9973), (
        (2, 9931), (2, 9941), (2, 9949), (2, 9973), (3, 9931), (3, 9949), (3, 9967), (3, 9973), (5, 9931), (5, 9941))),
    great_table((2, 3, 5, 9931, 9941, 9949, 9967, 9973), ((3, 9931), (3, 9949), (3, 9967), (3, 9973), (5, 9931))),
    great_table((277, 331, 829, 1657, 9931, 9949, 9967, 9973), (
        (277, 9973), (331, 9931), (829, 9949)), 5),
    great_table((71, 151, 277, 331, 4943, 9887, 9941, 9967), (
        (71, 9941), (151, 9967), (4943, 9887)), 3),
    great_table((9901, 9907, 9923, 9929, 9931, 9941, 9949, 9973), ()),
    great_table((2, 9901, 9907, 9923, 9929, 9949, 9967, 9973), (
        (2, 9901), (2, 9907), (2, 9923), (2, 9929), (2, 9949), (2, 9967), (2, 9973))),
    great_table((2, 3, 5, 7, 11, 13, 17, 9973), ((2, 9973), (3, 9973), (3, 7), (2, 11), (5, 11), (3, 13))),
)
DOCUMENT = (SIX, TWO, TWIN, MIXED, NONE, THREE, WIDE)


def spread(table, count, seed=1):
    """So many things of a table, all rests spread about, some of them 0."""
    state = seed * 7919 + 12345
    things = []
    for _ in range(count):
        rests = []
        for prime in table[0]:
            state = (state * 1103515245 + 12345) % (1 << 31)
            rests.append(0 if state >> 28 < 2 else (state >> 8) % prime)
        things.append(tuple(rests))
    return things


def spread_parts(table, count, seed=1):
    """So many parts of a table, of all sizes."""
    state = seed * 104729 + 54321
    parts = []
    for _ in range(count):
        chosen = []
        for prime in table[0]:
            state = (state * 1103515245 + 12345) % (1 << 31)
            if (state >> 16) % 2 == 0:
                chosen.append(prime)
        spots = []
        for prime in reference.moved_outside(table, chosen):
            state = (state * 1103515245 + 12345) % (1 << 31)
            spots.append((prime, (state >> 8) % prime if state >> 29 else 0))
        parts.append((tuple(chosen), tuple(spots)))
    return parts
