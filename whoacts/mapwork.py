"""Work on maps, for tables that are known to be tables: whether a value tells one, and where it leads things."""

from whoacts.tablelooks import movers_in, row_in
from whoacts.thingneeds import is_thing_of
from whoacts.thingwork import nought_in, raised_to, times, turn


def units_in(table):
    """Return the tuple of the units of a table."""
    return tuple([tuple([1 if late == prime else 0 for late in table[0]]) for prime in table[0]])


def tells_map(table, other, value):
    """Return whether any value tells a map from the table to the other one."""
    if not isinstance(value, tuple) or len(value) != len(table[0]):
        return False
    if not all([is_thing_of(other, image) for image in value]):
        return False
    images = dict(zip(table[0], value))
    return all([keeps_relations(table, other, images, prime) for prime in table[0]])


def keeps_relations(table, other, images, prime):
    """Return whether the images, a dict, are to that of a prime and to those of later ones as units are to units."""
    image = images[prime]
    if raised_to(other, image, prime) != nought_in(other):
        return False
    roots = dict(row_in(table, prime))
    # What a prime moves is greater than it, so each two primes are asked once.
    for late in table[0]:
        if late > prime and turn(other, images[late], image) != raised_to(other, images[late], roots.get(late, 1)):
            return False
    return True


def led_to(table, other, images, thing):
    """Return what a map leads a thing to."""
    movers = movers_in(table)
    steps = list(zip(table[0], images, thing))
    # A thing is the product of the powers of the units to its rests, those of movers last.
    ordered = [step for step in steps if step[0] not in movers] + [step for step in steps if step[0] in movers]
    total = nought_in(other)
    for _, image, rest in ordered:
        total = times(other, total, raised_to(other, image, rest))
    return total


def primes_lost(table, other, images):
    """Return the set of the primes whose units a map leads to nought."""
    nought = nought_in(other)
    return tuple([prime for prime, image in zip(table[0], images) if image == nought])


def is_exact(table, other, images):
    """Return whether a map is one to one and onto."""
    # Tables with as many things have the same primes, and a map that is one to one is onto there.
    return table[0] == other[0] and len(primes_lost(table, other, images)) == 0
