"""Which tables are alike, by which maps, and the plain table of each."""

from whoacts.arithmetic import power_modulo
from whoacts.likework import is_alike, row_power
from whoacts.mapneeds import need_two_tables
from whoacts.mapwork import units_in
from whoacts.tablelooks import movers_in
from whoacts.tableneeds import need_mover_of, need_table
from whoacts.thingwork import raised_to
from whoacts.webwork import all_roots, least_root, powers_of


def power_between(table, other, mover):
    """Return the least number from 1 on to which the mover's row in other is its row in the table.

    None if there is none, or if the mover does not move the same primes in both.
    """
    need_two_tables(table, other)
    need_mover_of(table, mover)
    return row_power(table, other, mover)


def are_alike(table, other):
    """Return whether both tables are alike."""
    need_two_tables(table, other)
    return is_alike(table, other)


def likeness_of(table, other):
    """Return any map from the table to other that is one to one and onto; None if they are not alike."""
    need_two_tables(table, other)
    if not is_alike(table, other):
        return None
    powers = dict([(mover, row_power(table, other, mover)) for mover in movers_in(table)])
    units = units_in(other)
    return tuple([raised_to(other, unit, powers.get(prime, 1)) for prime, unit in zip(other[0], units)])


def plain_of(table):
    """Return the table alike to it whose rows are, mover by mover, the least of their powers."""
    need_table(table)
    return (table[0], tuple([(mover, plain_row(mover, row)) for mover, row in table[1]]))


def plain_row(mover, row):
    """Return the least row to which the mover's row is up to a power."""
    moved, root = row[0]
    # The powers of the first root are unlike, so the least of them alone tells which row is the least.
    roots = powers_of(root, mover, moved)
    power = roots.index(min(roots)) + 1
    return tuple([(late, power_modulo(step, power, late)) for late, step in row])


def all_plain(table):
    """Return the set of the plain tables of all tables with the same primes and web."""
    need_table(table)
    choices = [()]
    for mover, row in table[1]:
        rows = all_plain_rows(mover, [moved for moved, _ in row])
        choices = [moves + ((mover, late),) for moves in choices for late in rows]
    return tuple(sorted([(table[0], moves) for moves in choices]))


def all_plain_rows(mover, moved_ones):
    """Return the list of the rows of the mover, with these primes, none of whose powers is less."""
    rows = [((moved_ones[0], least_root(mover, moved_ones[0])),)]
    for moved in moved_ones[1:]:
        rows = [row + ((moved, root),) for row in rows for root in all_roots(mover, moved)]
    return rows
