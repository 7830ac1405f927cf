"""Work on tables that may be alike, for tables that are known to be tables: nothing is checked here."""

from whoacts.arithmetic import power_modulo
from whoacts.classwork import counted
from whoacts.tablelooks import movers_in, row_in


def moved_in_row(table, prime):
    """Return the tuple of the primes that a prime moves, () if it is no mover."""
    return tuple([moved for moved, _ in row_in(table, prime)])


def row_power(table, other, mover):
    """Return the least number from 1 on to which the mover's row in other is its row in the table, None without one."""
    if moved_in_row(table, mover) != moved_in_row(other, mover):
        return None
    row = row_in(table, mover)
    late = row_in(other, mover)
    # Both roots at one prime are powers of one another, and are not 1, so the first pair leaves just one number.
    power = counted(late[0][1], row[0][1], row[0][0])
    for (moved, root), (_, step) in zip(row, late):
        if power_modulo(step, power, moved) != root:
            return None
    return power


def is_alike(table, other):
    """Return whether two tables are alike."""
    if table[0] != other[0] or first_unlike_web(table, other) is not None:
        return False
    return first_unlike_row(table, other) is None


def first_unlike_web(table, other):
    """Return the least prime of the table that does not move the same primes in the other one, None without one."""
    for prime in table[0]:
        if moved_in_row(table, prime) != moved_in_row(other, prime):
            return prime
    return None


def first_unlike_row(table, other):
    """Return the least mover of the table without a power between its rows, None without one."""
    for mover in movers_in(table):
        if row_power(table, other, mover) is None:
            return mover
    return None
