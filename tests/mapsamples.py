"""Maps between great tables, made without the functions of maps, and the consequences by which they are told."""

from tests import reference, samples


def relations_hold(table, other, images):
    """Whether things of other are to one another as the units are, as [74] says."""
    nought = reference.nought(other)
    image_of = dict(zip(table[0], images))
    roots = {(mover, moved): root for mover, row in table[1] for moved, root in row}
    for prime, image in image_of.items():
        if reference.power(other, image, prime) != nought:
            return False
        for late, value in image_of.items():
            root = roots.get((prime, late), 1)
            if (late, prime) in roots or late == prime:
                continue
            # image value = value^root image
            if reference.times(other, image, value) != reference.times(other, reference.power(other, value, root), image):
                return False
    return True


def back(table, thing):
    return reference.power(table, thing, reference.number(table) - 1)


def turned(table, thing, other):
    return reference.times(table, reference.times(table, other, thing), back(table, other))


def powered_rows(table, k=1):
    """A table alike to it: each row to a power, the k-th one of those that there are."""
    moves = []
    for mover, row in table[1]:
        power = 1 + k % (mover - 1)
        moves.append((mover, tuple((q, pow(root, power, q)) for q, root in row)))
    return (table[0], tuple(moves))


def cut(table, primes):
    rows = [(mover, tuple(step for step in row if step[0] in primes)) for mover, row in table[1] if mover in primes]
    return (tuple(primes), tuple((mover, row) for mover, row in rows if row))


def into_part(table, part, thing):
    """The thing of the part with these rests at its primes."""
    primes, spots = part
    start = tuple(x if prime in primes else 0 for prime, x in zip(table[0], thing))
    spots = dict(spots)
    factors = reference.factors(table, start)
    return tuple(x if prime in primes else (1 - f) * spots.get(prime, 0) % prime
                 for prime, x, f in zip(table[0], start, factors))


def turning(table, seed):
    """The images of a turning: rests at primes that are no movers are multiplied, then all is turned by a thing."""
    movers = reference.movers(table)
    rest_of = dict(zip(table[0], samples.spread(table, 1, seed)[0]))
    thing = samples.spread(table, 1, seed + 50)[0]
    images = []
    for prime, unit in zip(table[0], reference.units(table)):
        factor = 1 if prime in movers else rest_of[prime] or 1
        images.append(turned(table, tuple(x * factor for x in unit), thing))
    return tuple(images)


def some_maps(table):
    """Triples (table, other, images) of maps from this table, and into it."""
    units = reference.units(table)
    nought = reference.nought(table)
    found = [(table, table, units), (table, table, (nought,) * len(units)), (table, samples.NONE, ((),) * len(units)),
             (samples.NONE, table, ()), (table, table, turning(table, 1)), (table, table, turning(table, 2))]
    for part in samples.spread_parts(table, 5, 3) + [((), ()), (table[0], ())]:
        primes = part[0]
        found.append((cut(table, primes), table, tuple(into_part(table, part, unit) for prime, unit in zip(table[0], units)
                                                       if prime in primes)))
        if not reference.moved_outside(table, primes):
            left = [prime for prime in table[0] if prime not in primes]
            rests = [tuple(x for prime, x in zip(table[0], unit) if prime in left) for unit in units]
            found.append((table, cut(table, left), tuple(rests)))
    for mover in reference.movers(table):
        # By the rest at a mover alone.
        at = table[0].index(mover)
        found.append((table, ((mover,), ()), tuple((unit[at],) for unit in units)))
    return found
