"""Work on things that are known to be things: nothing is checked here."""

from whoacts.arithmetic import inverse_modulo, power_modulo, product_over
from whoacts.tablelooks import movers_in


def factors_at(table, thing):
    """Return a dict that gives each prime of the table the factor of the thing there."""
    rests = dict(zip(table[0], thing))
    factors = dict([(prime, 1) for prime in table[0]])
    for mover, row in table[1]:
        for moved, root in row:
            factors[moved] = factors[moved] * power_modulo(root, rests[mover], moved) % moved
    return factors


def nought_in(table):
    """Return the thing with all rests 0."""
    return tuple([0 for _ in table[0]])


def times(table, thing, other):
    """Return the product of two things."""
    factors = factors_at(table, thing)
    return tuple([(x + factors[prime] * y) % prime for prime, x, y in zip(table[0], thing, other)])


def back_to(table, thing):
    """Return the back of a thing."""
    factors = factors_at(table, thing)
    return tuple([-x * inverse_modulo(factors[prime], prime) % prime for prime, x in zip(table[0], thing)])


def turn(table, thing, other):
    """Return other times the thing times the back of other."""
    return times(table, times(table, other, thing), back_to(table, other))


def series_modulo(factor, k, prime):
    """Return the sum of the powers of the factor from 0 on, k of them, which k may also be below 0."""
    if factor == 1:
        return k % prime
    # The powers of what the prime does not divide repeat behind prime less 1 of them.
    top = power_modulo(factor, k % (prime - 1), prime) - 1
    return top * inverse_modulo(factor - 1, prime) % prime


def raised_to(table, thing, k):
    """Return the power of a thing to an integer."""
    factors = factors_at(table, thing)
    return tuple([x * series_modulo(factors[prime], k, prime) % prime for prime, x in zip(table[0], thing)])


def order_in(table, thing):
    """Return the order of a thing."""
    factors = factors_at(table, thing)
    # Where the factor is not 1, a mover that is counted already brings the rest to 0.
    return product_over([prime for prime, x in zip(table[0], thing) if x != 0 and factors[prime] == 1])


def moving_in(table, thing):
    """Return the set of the movers at which the rest of a thing is not 0."""
    rests = dict(zip(table[0], thing))
    return tuple([mover for mover in movers_in(table) if rests[mover] != 0])
