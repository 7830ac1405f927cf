"""The web told back by counts of a table."""

from whoacts.arithmetic import factors_told, product_over, subsets_of
from whoacts.countwork import degrees_in, has_whole_part, sizes_in
from whoacts.errors import NotUsable
from whoacts.kinds import is_ascending, is_integer_pair, is_number
from whoacts.tableneeds import is_set_of
from whoacts.webwork import is_web_with, least_table, need_prime_set


def web_by_parts(primes, numbers):
    """Return the web of the tables with so many parts of each prime, None if there are none."""
    need_prime_set(primes)
    need_numbers(primes, numbers)
    return web_of_rows(primes, [factors_told(primes, number) for number in numbers])


def web_by_orders(primes, numbers):
    """Return the web of the tables with so many things of each prime as the order, None if there are none."""
    need_prime_set(primes)
    need_numbers(primes, numbers)
    if any([number % (prime - 1) != 0 for prime, number in zip(primes, numbers)]):
        return None
    # A part of a prime has beside nought just things of this order, each of which is in no other such part.
    counts = [number // (prime - 1) for prime, number in zip(primes, numbers)]
    return web_of_rows(primes, [factors_told(primes, number) for number in counts])


def web_by_wholes(primes, numbers):
    """Return the web of the tables with whole parts of just these sets of primes, None if there are none."""
    need_prime_set(primes)
    if not is_set_of_sets(primes, numbers):
        raise NotUsable("numbers", -1)
    rows = [tuple([late for late in primes if late != prime and follows(numbers, prime, late)]) for prime in primes]
    web = web_of_rows(primes, rows)
    if web is None or wholes_with(primes, web) != numbers:
        return None
    return web


def web_by_sizes(primes, pairs):
    """Return the web of the tables with so many things in classes of each size, None if there are none."""
    need_prime_set(primes)
    need_pairs(pairs)
    number = product_over(primes)
    found = []
    for prime in primes:
        # In a class whose size the prime does not divide are all things, if it is still; if it is moved, those with
        # rests 0 at its movers; if it is a mover, more than half of all, but not all.
        kept = sum([many for size, many in pairs if number // prime % size == 0])
        if 0 < kept < number and number % kept == 0:
            found.extend([(mover, prime) for mover in factors_told(primes, number // kept) or ()])
    web = tuple(sorted(found))
    if not is_web_with(primes, web) or sizes_in(least_table(primes, web)) != pairs:
        return None
    return web


def web_by_degrees(primes, pairs):
    """Return the web of the tables with these degrees, None if there are none."""
    need_prime_set(primes)
    need_pairs(pairs)
    number = product_over(primes)
    rows = []
    for prime in primes:
        # The squares of the degrees that the prime does not divide sum to the number without those that it moves.
        kept = sum([many * size * size for size, many in pairs if size % prime != 0])
        rows.append(factors_told(primes, number // kept) if kept > 0 and number % kept == 0 else None)
    web = web_of_rows(primes, rows)
    if web is None or degrees_in(least_table(primes, web)) != pairs:
        return None
    return web


def web_of_rows(primes, rows):
    """Return the web in which each of the primes moves those of its row, None if there is no such web."""
    if any([row is None for row in rows]):
        return None
    web = tuple([(mover, moved) for mover, row in zip(primes, rows) for moved in row])
    return web if is_web_with(primes, web) else None


def follows(sets, prime, late):
    """Return whether each of the sets that has the one prime has the late one, too."""
    return all([late in chosen for chosen in sets if prime in chosen])


def wholes_with(primes, web):
    """Return the set of all sets of primes of which the tables with this web have a whole part."""
    table = least_table(primes, web)
    return tuple([chosen for chosen in subsets_of(primes) if has_whole_part(table, chosen)])


def need_numbers(primes, numbers):
    """Refuse any value that is no tuple of numbers, one for each prime."""
    if not isinstance(numbers, tuple) or len(numbers) != len(primes) or not all([is_number(each) for each in numbers]):
        raise NotUsable("numbers", -1)


def is_set_of_sets(primes, value):
    """Return whether any value is a set of sets of some of these primes."""
    if not isinstance(value, tuple) or not all([is_set_of(primes, chosen) for chosen in value]):
        return False
    return is_ascending(value)


def need_pairs(pairs):
    """Refuse any value that is no set of pairs of numbers from 1 on."""
    if not isinstance(pairs, tuple) or not all([is_integer_pair(pair) and min(pair) > 0 for pair in pairs]):
        raise NotUsable("pairs", -1)
    if not is_ascending(pairs):
        raise NotUsable("pairs", -1)
