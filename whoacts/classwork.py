"""Work on classes of things that are known to be things: nothing is checked here."""

from whoacts.arithmetic import inverse_modulo, power_modulo, product_over, subsets_of
from whoacts.orders import count_of_order
from whoacts.tablelooks import moved_by, movers_in, moving, roots_at
from whoacts.thingwork import factors_at


def free_primes(table, thing):
    """Return the set of the primes that are no movers and that no mover at which the thing's rest is not 0 moves."""
    factors = factors_at(table, thing)
    movers = movers_in(table)
    return tuple([prime for prime in table[0] if prime not in movers and factors[prime] == 1])


def quotient(rest, late, prime):
    """Return what times a rest, which is not 0, is the late one, modulo the prime."""
    return late * inverse_modulo(rest, prime) % prime


def powers_at(table, prime, value):
    """Return the list of pairs (mover, power) of the prime: the value is the product of the roots to these powers.

    It is None if the value is no such product, modulo the prime; where no mover moves it, if the value is not 1.
    """
    roots = roots_at(table, prime)
    order = product_over([mover for mover, _ in roots])
    if power_modulo(value, order, prime) != 1:
        return None
    # To the power of all other movers together their roots are 1, and the one that is left can be counted.
    late = [(mover, power_modulo(root, order // mover, prime), order // mover) for mover, root in roots]
    return [(mover, counted(base, power_modulo(value, rest, prime), prime)) for mover, base, rest in late]


def counted(base, value, prime):
    """Return the least power to which the base is the value, one of its powers, modulo the prime."""
    power = 0
    total = 1
    while total != value:
        total = total * base % prime
        power += 1
    return power


def merged(powers):
    """Return the dict of all pairs in lists of powers_at; None if one is None, or if two pairs differ in the power."""
    found = {}
    for pairs in powers:
        if pairs is None:
            return None
        for mover, power in pairs:
            if found.get(mover, power) != power:
                return None
            found[mover] = power
    return found


def turner_to(table, thing, other):
    """Return a thing by which the thing, turned, is other; None if there is none."""
    powers = powers_between(table, thing, other)
    if powers is None:
        return None
    start = [powers.get(prime, 0) for prime in table[0]]
    turned = factors_at(table, start)
    factors = factors_at(table, thing)
    rests = []
    for prime, rest, x, y in zip(table[0], start, thing, other):
        gap = y - turned[prime] * x
        # Where the factor is not 1, the turner's own rest brings the thing's rest to any other one.
        rests.append(rest if factors[prime] == 1 else gap * inverse_modulo(1 - factors[prime], prime) % prime)
    return tuple(rests)


def powers_between(table, thing, other):
    """Return a dict with rests at movers by which the thing is turned to other; None if they are of two classes."""
    movers = movers_in(table)
    free = free_primes(table, thing)
    powers = []
    for prime, x, y in zip(table[0], thing, other):
        if prime in movers and x != y:
            return None
        if prime in free and (x == 0) != (y == 0):
            return None
        if prime in free and x != 0:
            powers.append(powers_at(table, prime, quotient(x, y, prime)))
    return merged(powers)


def least_turned(table, thing):
    """Return the least thing of the class of a thing."""
    movers = movers_in(table)
    free = free_primes(table, thing)
    settled = {}
    rests = []
    for prime, x in zip(table[0], thing):
        if prime in free and x != 0:
            least, powers = least_at(table, prime, x, settled)
            settled.update(powers)
            rests.append(least)
        else:
            rests.append(x if prime in movers else 0)
    return tuple(rests)


def least_at(table, prime, rest, settled):
    """Return the least rest to which this one can be turned, and a dict of the powers that the movers have for it.

    Of the movers that are settled, a dict, the powers are known: earlier primes ask for them.
    """
    choices = [(rest, ())]
    for mover, root in roots_at(table, prime):
        powers = [settled[mover]] if mover in settled else list(range(mover))
        steps = [(power_modulo(root, power, prime), (mover, power)) for power in powers]
        choices = [(x * turn % prime, told + (pair,)) for x, told in choices for turn, pair in steps]
    least, found = min(choices)
    return (least, dict(found))


def size_of_class(table, thing):
    """Return how many things are of the class of a thing."""
    free = free_primes(table, thing)
    swept = [prime for prime, factor in factors_at(table, thing).items() if factor != 1]
    held = [prime for prime, x in zip(table[0], thing) if prime in free and x != 0]
    return product_over(swept) * product_over(moving(table, held))


def classes_by_order(table):
    """Return the list of triples (primes, size, number): so many classes of so many things of each order."""
    found = []
    for primes in subsets_of(table[0]):
        if count_of_order(table, primes) > 0:
            turning = product_over(moving(table, primes))
            number = product_over([prime - 1 for prime in primes]) // turning
            found.append((primes, product_over(moved_by(table, primes)) * turning, number))
    return found


def count_classes(table):
    """Return how many classes there are."""
    return sum([row[2] for row in classes_by_order(table)])


def is_away(table, prime, rest, late):
    """Return whether just one of two rests at a free prime is 0, or none is, and neither can be turned to the other."""
    if rest == 0 or late == 0:
        return rest != late
    return powers_at(table, prime, quotient(rest, late, prime)) is None
