"""What is left of a table by a part, and within it."""

from whoacts.errors import NotUsable
from whoacts.partneeds import need_part, need_whole_part
from whoacts.partwork import has_thing
from whoacts.tablelooks import cut
from whoacts.tableneeds import need_table
from whoacts.thingneeds import is_thing_of, need_thing


def left_of(table, part):
    """Return the table that is left by a whole part."""
    need_table(table)
    need_whole_part(table, part)
    return cut(table, primes_left(table, part))


def primes_left(table, part):
    """Return the list of the primes of the table that the part does not have."""
    return [prime for prime in table[0] if prime not in part[0]]


def image_of(table, part, thing):
    """Return the thing that is left of the thing by a whole part."""
    need_table(table)
    need_whole_part(table, part)
    need_thing(table, thing)
    return rests_at(table, thing, primes_left(table, part))


def table_of_part(table, part):
    """Return the table of the things of the part."""
    need_table(table)
    need_part(table, part)
    return cut(table, part[0])


def within_part(table, part, thing):
    """Return the thing of table_of_part that a thing of the part is there."""
    need_table(table)
    need_part(table, part)
    if not is_thing_of(table, thing) or not has_thing(table, part, thing):
        raise NotUsable("thing", -1)
    return rests_at(table, thing, part[0])


def rests_at(table, thing, primes):
    """Return the tuple of the rests of the thing at these primes."""
    return tuple([rest for prime, rest in zip(table[0], thing) if prime in primes])
