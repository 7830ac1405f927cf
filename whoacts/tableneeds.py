"""What functions need of their parameters: tables, their primes, and integers."""

from whoacts.errors import NotUsable
from whoacts.kinds import is_integer, is_number, is_table
from whoacts.tablelooks import movers_in


def need_table(table):
    """Refuse any value that is no table."""
    if not is_table(table):
        raise NotUsable("table", -1)


def is_prime_of(table, value):
    """Return whether any value is a prime of the table."""
    return is_integer(value) and value in table[0]


def need_prime_of(table, prime):
    """Refuse any value that is no prime of the table."""
    if not is_prime_of(table, prime):
        raise NotUsable("prime", -1)


def need_mover_of(table, mover):
    """Refuse any value that is no mover of the table."""
    if not is_integer(mover) or mover not in movers_in(table):
        raise NotUsable("mover", -1)


def is_set_of(primes, value):
    """Return whether any value is a set of some of these primes."""
    if not isinstance(value, tuple) or not all([is_integer(prime) for prime in value]):
        return False
    chosen = dict([(prime, True) for prime in value])
    return value == tuple([prime for prime in primes if prime in chosen])


def need_primes_of(table, primes):
    """Refuse any value that is no set of primes of the table."""
    if not is_set_of(table[0], primes):
        raise NotUsable("primes", -1)


def need_integer(k):
    """Refuse any value that is no integer."""
    if not is_integer(k):
        raise NotUsable("k", -1)


def need_positive(k):
    """Refuse any value that is no integer from 1 on."""
    if not is_integer(k) or k < 1:
        raise NotUsable("k", -1)


def need_number(value, word):
    """Refuse any value that is no number; word is the name of the parameter."""
    if not is_number(value):
        raise NotUsable(word, -1)


def need_table_beside(table, other):
    """Refuse any value that is no table with the primes of the table."""
    if not is_table(other) or other[0] != table[0]:
        raise NotUsable("other", -1)
