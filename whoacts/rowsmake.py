"""What rows of things make, counted by parts and by divisors."""

from whoacts.arithmetic import subsets_of
from whoacts.countwork import count_parts
from whoacts.makework import count_rows_making
from whoacts.partneeds import need_part
from whoacts.tablelooks import cut
from whoacts.tableneeds import need_number, need_table


def rows_in(table, part, many):
    """Return how many tuples of so many things make just this part."""
    need_table(table)
    need_part(table, part)
    need_number(many, "many")
    return count_rows_making(cut(table, part[0]), many)


def rows_by_divisor(table, many):
    """Return a tuple of pairs (primes, rows): how many tuples of so many things make a part with just these primes."""
    need_table(table)
    need_number(many, "many")
    return tuple([(primes, count_parts(table, primes) * count_rows_making(cut(table, primes), many))
                  for primes in subsets_of(table[0])])
