"""Papers that tell why some things make just one part."""

from whoacts.partwork import common_spot, least_part
from whoacts.tableneeds import need_table
from whoacts.thingneeds import need_tuple_of_things
from whoacts.thingwork import factors_at


def made_paper(table, things):
    """Return any paper that lets_made accepts: the part that the things make, and a word for each of its primes."""
    need_table(table)
    need_tuple_of_things(table, things)
    part = least_part(table, things)
    factors = [factors_at(table, thing) for thing in things]
    words = []
    for at, prime in enumerate(table[0]):
        if prime in part[0]:
            words.append(word_for([(thing[at], held[prime]) for thing, held in zip(things, factors)], prime))
    return (part, tuple(words))


def word_for(places, prime):
    """Return a word for the prime, of the things' pairs (rest, factor) there, which have no spot in common."""
    spots = {}
    for k, (rest, factor) in enumerate(places):
        if factor == 1 and rest != 0:
            return ((k, 1),)
        if factor != 1:
            spots[k] = common_spot([(rest, factor)], prime)
    first = min(list(spots))
    late = min([k for k, spot in spots.items() if spot != spots[first]])
    # Things with unlike spots cannot be exchanged here: their exchanger has the factor 1 and a rest that is not 0.
    return ((first, 1), (late, 1), (first, -1), (late, -1))
