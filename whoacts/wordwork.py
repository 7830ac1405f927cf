"""Words, which tell products of powers of things: written and judged, for tables and things that are known as such."""

from whoacts.kinds import is_integer_pair
from whoacts.partwork import common_spot
from whoacts.thingwork import factors_at, nought_in, order_in, raised_to, times


def words_for(table, things, primes):
    """Return the tuple of a word for each of these primes of the part that the things make."""
    factors = [factors_at(table, thing) for thing in things]
    words = []
    for at, prime in enumerate(table[0]):
        if prime in primes:
            words.append(word_at([(thing[at], held[prime]) for thing, held in zip(things, factors)], prime))
    return tuple(words)


def word_at(places, prime):
    """Return a word for the prime, of the things' pairs (rest, factor) there, which have no spot in common."""
    spots = {}
    for k, (rest, factor) in enumerate(places):
        if factor == 1 and rest != 0:
            return ((k, 1),)
        if factor != 1:
            spots[k] = common_spot([(rest, factor)], prime)
    first = min(list(spots))
    late = min([k for k, spot in spots.items() if spot != spots[first]])
    # Things with unlike spots cannot be exchanged here: their exchanger has the factor 1 and a rest that is not 0.
    return ((first, 1), (late, 1), (first, -1), (late, -1))


def words_fault(table, things, primes, words):
    """Return the word and the place of the first thing by which a tuple is no words for these primes, or None."""
    if len(words) != len(primes):
        return ("many", -1)
    for k, word in enumerate(words):
        if not is_word(things, word) or order_in(table, told_by(table, things, word)) % primes[k] != 0:
            return ("word", k)
    return None


def is_word(things, value):
    """Return whether any value is a tuple of pairs (index, power), each index being one of the things."""
    if not isinstance(value, tuple):
        return False
    return all([is_integer_pair(step) and 0 <= step[0] < len(things) for step in value])


def told_by(table, things, word):
    """Return the product of the powers that a word tells."""
    total = nought_in(table)
    for at, power in word:
        total = times(table, total, raised_to(table, things[at], power))
    return total
