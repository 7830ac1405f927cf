"""Maps between tables counted: all of them, those that are one to one, and those that are onto."""

from whoacts.alikework import count_alike, has_alike
from whoacts.arithmetic import subsets_of
from whoacts.countwork import count_turnings, has_whole_part
from whoacts.mapneeds import need_two_tables
from whoacts.tablelooks import cut


def how_many_maps(table, other):
    """Return how many maps from the table to other there are."""
    need_two_tables(table, other)
    # What a map leads to nought is a whole part, and what that leaves of the table is led one to one.
    wanted = [primes for primes in subsets_of(table[0]) if has_whole_part(table, rest_of(table, primes))]
    return sum([count_into(cut(table, primes), other) for primes in wanted])


def how_many_into(table, other):
    """Return how many maps from the table to other are one to one."""
    need_two_tables(table, other)
    return count_into(table, other)


def how_many_onto(table, other):
    """Return how many maps from the table to other are onto."""
    need_two_tables(table, other)
    if not has_alike(table, other) or not has_whole_part(table, rest_of(table, other[0])):
        return 0
    return count_turnings(other)


def rest_of(table, primes):
    """Return the set of the primes of the table that are none of these."""
    return tuple([prime for prime in table[0] if prime not in primes])


def count_into(table, other):
    """Return how many maps from the table to the other one are one to one."""
    return count_alike(other, table) * count_turnings(table)
