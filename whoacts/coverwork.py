"""Things that are in none of some parts, of tables and parts that are known to be such: nothing is checked here.

The movers at which a thing's rest is not 0 are held. At the other primes its values are its spots where a mover held
moves them, else its rests: they make it a point. A part that has all movers held asks for one value at some primes: it
is a box, a dict of these primes with their values.
"""

from whoacts.arithmetic import product_over, subsets_of
from whoacts.tablelooks import moved_by, movers_in, unmoving_in
from whoacts.thingwork import factors_at


def count_missed(table, parts):
    """Return how many things are in none of the parts."""
    primes = unmoving_in(table)
    total = 0
    for held in subsets_of(movers_in(table)):
        ways = product_over([mover - 1 for mover in held])
        total = total + ways * count_points(primes, boxes_of(table, parts, held))
    return total


def find_missed(table, parts):
    """Return a thing that is in none of the parts, None if there is none."""
    primes = unmoving_in(table)
    for held in subsets_of(movers_in(table)):
        values = find_point(primes, boxes_of(table, parts, held))
        if values is not None:
            return thing_at(table, held, values)
    return None


def boxes_of(table, parts, held):
    """Return the list of the boxes of those parts that have all movers held."""
    swept = moved_by(table, held)
    boxes = []
    for primes, spots in parts:
        if all([mover in primes for mover in held]):
            spot_at = dict(spots)
            outside = [prime for prime in unmoving_in(table) if prime not in primes]
            # Where no mover that is held moves a prime a spot asks for the rest 0, as the factor is 1.
            boxes.append(dict([(prime, spot_at[prime] if prime in swept else 0) for prime in outside]))
    return boxes


def values_asked(prime, boxes):
    """Return the list of the values that the boxes ask for at a prime, ascending."""
    return sorted(set([box[prime] for box in boxes if prime in box]))


def boxes_at(prime, value, boxes):
    """Return the list of the boxes that have points with this value at the prime."""
    return [box for box in boxes if box.get(prime, value) == value]


def count_points(primes, boxes):
    """Return how many points over these primes are in none of the boxes, which ask for nothing elsewhere."""
    if len(boxes) == 0:
        return product_over(primes)
    if len(primes) == 0:
        return 0
    prime = primes[0]
    asked = values_asked(prime, boxes)
    free = [box for box in boxes if prime not in box]
    counts = [count_points(primes[1:], boxes_at(prime, value, boxes)) for value in asked]
    if len(asked) < prime:
        counts.append((prime - len(asked)) * count_points(primes[1:], free))
    return sum(counts)


def find_point(primes, boxes):
    """Return a list of values over these primes that is in none of the boxes, None if there is none."""
    if len(primes) == 0:
        return [] if len(boxes) == 0 else None
    prime = primes[0]
    asked = values_asked(prime, boxes)
    # Of the values that no box asks for one does for all.
    others = [value for value in range(min(prime, len(asked) + 1)) if value not in asked]
    for value in asked + others[:1]:
        values = find_point(primes[1:], boxes_at(prime, value, boxes))
        if values is not None:
            return [value] + values
    return None


def thing_at(table, held, values):
    """Return a thing at the point of these values, with the rest 1 at each of the movers held."""
    start = [1 if prime in held else 0 for prime in table[0]]
    factors = factors_at(table, start)
    value_at = dict(zip(unmoving_in(table), values))
    rests = []
    for prime, rest in zip(table[0], start):
        if factors[prime] == 1:
            rests.append(value_at.get(prime, rest))
        else:
            rests.append((1 - factors[prime]) * value_at[prime] % prime)
    return tuple(rests)
