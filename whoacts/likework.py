"""Work on tables that may be alike, for tables that are known to be tables: nothing is checked here."""

from whoacts.arithmetic import power_modulo
from whoacts.classwork import counted
from whoacts.tablelooks import movers_in, row_in


def moved_in_row(table, prime):
    """Return the tuple of the primes that a prime moves, () if it is no mover."""
    return tuple([moved for moved, _ in row_in(table, prime)])


def row_power(table, other, mover):
    """Return the least number from 1 on to which the mover's row in other is its row in the table, None without one."""
    if moved_in_row(table, mover) != moved_in_row(other, mover):
        return None
    row = row_in(table, mover)
    late = row_in(other, mover)
    # Both roots at one prime are powers of one another, and are not 1, so the first pair leaves just one number.
    power = counted(late[0][1], row[0][1], row[0][0])
    for (moved, root), (_, step) in zip(row, late):
        if power_modulo(step, power, moved) != root:
            return None
    return power


def is_alike(table, other):
    """Return whether two tables are alike."""
    if table[0] != other[0] or movers_in(table) != movers_in(other):
        return False
    return all([row_power(table, other, mover) is not None for mover in movers_in(table)])
