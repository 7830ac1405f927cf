"""Covers: parts that have all things together."""

from whoacts.coverwork import count_missed, find_missed
from whoacts.partneeds import need_tuple_of_parts
from whoacts.tablelooks import moved_in, moving
from whoacts.tableneeds import need_table


def covers(table, parts):
    """Return whether each thing is in one of the parts at least."""
    need_table(table)
    need_tuple_of_parts(table, parts)
    return count_missed(table, parts) == 0


def how_many_missed(table, parts):
    """Return how many things are in none of the parts."""
    need_table(table)
    need_tuple_of_parts(table, parts)
    return count_missed(table, parts)


def missed_thing(table, parts):
    """Return any thing that is in none of the parts; None if there is none."""
    need_table(table)
    need_tuple_of_parts(table, parts)
    return find_missed(table, parts)


def cover_number(table):
    """Return the fewest parts, none of all things, that cover the table; None if no number does."""
    need_table(table)
    moved_ones = moved_in(table)
    return moved_ones[0] + 1 if len(moved_ones) > 0 else None


def fewest_cover(table):
    """Return any set of as few parts, none of all things, as cover the table; None if no set does."""
    need_table(table)
    moved_ones = moved_in(table)
    if len(moved_ones) == 0:
        return None
    least = moved_ones[0]
    others = tuple([prime for prime in table[0] if prime != least])
    movers = moving(table, (least,))
    # A thing has a spot at the least moved prime, or it does not move it.
    unmoving = (tuple([prime for prime in table[0] if prime not in movers]), ())
    return tuple(sorted([(others, ((least, spot),)) for spot in range(least)] + [unmoving]))
