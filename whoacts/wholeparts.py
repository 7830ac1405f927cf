"""Whole parts, and the parts that lie around a part."""

from whoacts.partneeds import is_whole_part, need_part
from whoacts.partwork import part_with
from whoacts.tablelooks import moved_by, movers_in, row_in
from whoacts.tableneeds import need_table


def is_whole(table, part):
    """Return whether the part is whole."""
    need_table(table)
    need_part(table, part)
    return is_whole_part(part)


def core_of(table, part):
    """Return the greatest whole part within the part."""
    need_table(table)
    need_part(table, part)
    outside = [prime for prime, _ in part[1]]
    primes = [prime for prime in part[0] if not any([moved in outside for moved, _ in row_in(table, prime)])]
    return (tuple(primes), ())


def hull_of(table, part):
    """Return the least whole part that the part lies in."""
    need_table(table)
    need_part(table, part)
    found = part[0] + moved_by(table, part[0])
    return (tuple([prime for prime in table[0] if prime in found]), ())


def kept_by(table, part):
    """Return the part of the things by which the part is turned into itself."""
    need_table(table)
    need_part(table, part)
    spots = dict(part[1])
    return (tuple([prime for prime in table[0] if prime not in spots]), part[1])


def still_for(table, part):
    """Return the part of the things that can be exchanged with each thing of the part."""
    need_table(table)
    need_part(table, part)
    return still_part(table, part)


def still_part(table, part):
    """Return the part of the things that can be exchanged with each thing of the part."""
    primes = tuple([prime for prime in table[0] if is_still_for(table, part, prime)])
    return part_with(table, primes, dict(part[1]))


def is_still_for(table, part, prime):
    """Return whether still_for the part has the prime."""
    if prime in movers_in(table):
        return not any([moved in part[0] for moved, _ in row_in(table, prime)])
    if prime in part[0]:
        return prime not in moved_by(table, part[0])
    return prime not in dict(part[1])
