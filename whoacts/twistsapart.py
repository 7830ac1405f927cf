"""What parts unlike tables by their twisted counts."""

from whoacts.allcounts import first_apart
from whoacts.arithmetic import inverse_modulo, power_modulo, product_over
from whoacts.classwork import counted
from whoacts.tablelooks import row_in


def twist_apart(table, other):
    """Return any number r for which both tables have unlike twisted counts; None if there is none."""
    pair = first_apart(table, other)
    if pair is not None:
        mover, moved = pair
        root = dict(row_in(table, mover) + row_in(other, mover))[moved]
        # Only things with a rest at this prime alone can be turned to such a power, and these in one table alone.
        return number_with(table[0], [(moved, root)])
    for mover, row in table[1]:
        late = unlike_moved(row, row_in(other, mover), mover)
        if late is not None:
            return number_with(table[0], [row[0], late])
    return None


def unlike_moved(row, other, mover):
    """Return the first pair (moved, root) of a row with another power to its root in the other row than the first pair.

    It is None if both rows, which move the same primes, are up to a power.
    """
    first, root = row[0]
    power = counted(root, other[0][1], first)
    for (moved, step), (_, late) in zip(row, other):
        if power_modulo(step, power, moved) != late:
            return (moved, step)
    return None


def number_with(primes, rests):
    """Return the number less than the product of the primes with these rests, pairs (prime, rest), and 0 elsewhere."""
    number = product_over(primes)
    parts = [rest * (number // prime) * inverse_modulo(number // prime, prime) for prime, rest in rests]
    return sum(parts) % number
