"""Which values are integers, numbers, primes, tables and webs."""

from whoacts.arithmetic import power_modulo

PRIMES_END = 10000
# Each number below PRIMES_END that is no prime has one of these as a divisor.
SMALL_PRIMES = (2, 3, 5, 7, 11, 13, 17, 19, 23, 29, 31, 37, 41, 43, 47, 53, 59, 61, 67, 71, 73, 79, 83, 89, 97)


def is_integer(value):
    """Return whether any value is an int that is not a bool."""
    return isinstance(value, int) and not isinstance(value, bool)


def is_number(value):
    """Return whether any value is an integer that is at least 0."""
    return is_integer(value) and value >= 0


def is_prime(value):
    """Return whether any value is a prime below ten thousand."""
    if not is_integer(value) or value < 2 or value >= PRIMES_END:
        return False
    for prime in SMALL_PRIMES:
        if prime * prime > value:
            return True
        if value % prime == 0:
            return False
    return True


def is_pair(value):
    """Return whether any value is a tuple of two values."""
    return isinstance(value, tuple) and len(value) == 2


def is_integer_pair(value):
    """Return whether any value is a tuple of two integers."""
    return is_pair(value) and is_integer(value[0]) and is_integer(value[1])


def is_root(value, mover, moved):
    """Return whether any value is a root by which the mover can move the prime moved."""
    return is_integer(value) and 1 < value < moved and power_modulo(value, mover, moved) == 1


def is_table(value):
    """Return whether any value is a table."""
    return table_fault(value) is None


def table_fault(value):
    """Return the word and the place of the first thing by which any value is no table, or None."""
    if not is_pair(value) or not isinstance(value[0], tuple) or not isinstance(value[1], tuple):
        return ("shape", -1)
    primes, moves = value
    return primes_fault(primes) or moves_fault(primes, moves) or chain_fault(moves)


def primes_fault(primes):
    """Return the first fault of a tuple that should be a set of primes, or None."""
    for k, prime in enumerate(primes):
        if not is_prime(prime):
            return ("prime", k)
        if k > 0 and prime <= primes[k - 1]:
            return ("order", k)
    return None


def moves_fault(primes, moves):
    """Return the first fault of a tuple that should hold the movers of primes with their rows, or None."""
    known = dict([(prime, True) for prime in primes])
    for k, move in enumerate(moves):
        if not starts_row(known, move) or (k > 0 and move[0] <= moves[k - 1][0]):
            return ("mover", k)
        fault = row_fault(known, move, k)
        if fault is not None:
            return fault
    return None


def starts_row(known, move):
    """Return whether any value is a pair of a known prime and a tuple that is not empty."""
    return is_pair(move) and is_known(known, move[0]) and isinstance(move[1], tuple) and len(move[1]) > 0


def is_known(known, value):
    """Return whether any value is one of the known integers."""
    # Lists cannot be looked up in a dict, so the kind comes first.
    return is_integer(value) and value in known


def row_fault(known, move, k):
    """Return the first fault in the row of the element k of the moves, or None."""
    mover, row = move
    for j, step in enumerate(row):
        if not may_step(known, mover, step) or (j > 0 and step[0] <= row[j - 1][0]):
            return ("moved", (k, j))
        if not is_root(step[1], mover, step[0]):
            return ("root", (k, j))
    return None


def may_step(known, mover, step):
    """Return whether any value is a pair of a known prime that the mover can move, and an integer."""
    return is_integer_pair(step) and is_known(known, step[0]) and can_move(mover, step[0])


def can_move(mover, moved):
    """Return whether there are roots by which one prime can move the other one."""
    return (moved - 1) % mover == 0


def chain_fault(moves):
    """Return the place of the first mover that is moved itself, or None."""
    moved_ones = dict([step for _, row in moves for step in row])
    for k, (mover, _) in enumerate(moves):
        if mover in moved_ones:
            return ("chain", k)
    return None


def is_web(value):
    """Return whether any value is a web."""
    if not isinstance(value, tuple) or not all([is_move_pair(pair) for pair in value]):
        return False
    if not is_ascending(value):
        return False
    moved_ones = dict([(moved, True) for _, moved in value])
    return not any([mover in moved_ones for mover, _ in value])


def is_move_pair(value):
    """Return whether any value is a pair of primes of which the first one can move the second one."""
    return is_pair(value) and is_prime(value[0]) and is_prime(value[1]) and can_move(value[0], value[1])


def is_ascending(values):
    """Return whether each value of a tuple is greater than the one before."""
    return all([values[k] < values[k + 1] for k in range(len(values) - 1)])
