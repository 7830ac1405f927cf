"""Tables made of other tables."""

from whoacts.arithmetic import power_modulo
from whoacts.errors import NotUsable
from whoacts.kinds import can_move, is_integer, is_prime, is_root, is_table
from whoacts.tablelooks import cut, moved_in, movers_in, pairs_in, row_in, with_rows
from whoacts.tableneeds import is_prime_of, need_mover_of, need_positive, need_primes_of, need_table


def with_prime(table, prime):
    """Return the table with one still prime more."""
    need_table(table)
    if not is_prime(prime) or prime in table[0]:
        raise NotUsable("prime", -1)
    return (tuple(sorted(table[0] + (prime,))), table[1])


def with_move(table, mover, moved, root):
    """Return the table in which the mover also moves the prime moved, by the root."""
    need_table(table)
    if not is_prime_of(table, mover) or mover in moved_in(table):
        raise NotUsable("mover", -1)
    if not may_be_moved(table, mover, moved):
        raise NotUsable("moved", -1)
    if not is_root(root, mover, moved):
        raise NotUsable("root", -1)
    row = sorted(row_in(table, mover) + ((moved, root),))
    return with_row(table, mover, row)


def may_be_moved(table, mover, moved):
    """Return whether the mover can move any value, which it does not move yet."""
    if not is_prime_of(table, moved) or moved == mover or moved in movers_in(table):
        return False
    return (mover, moved) not in pairs_in(table) and can_move(mover, moved)


def with_row(table, mover, row):
    """Return the table with this row of the mover in the place of the one it has, if it has one."""
    others = [move for move in table[1] if move[0] != mover]
    return with_rows(table[0], sorted(others + [(mover, row)]))


def without_move(table, mover, moved):
    """Return the table in which the mover does not move the prime moved any more."""
    need_table(table)
    need_mover_of(table, mover)
    if not is_integer(moved) or (mover, moved) not in pairs_in(table):
        raise NotUsable("moved", -1)
    row = [step for step in row_in(table, mover) if step[0] != moved]
    return with_row(table, mover, row)


def powered(table, mover, k):
    """Return the table with each root of the mover to the power k."""
    need_table(table)
    need_mover_of(table, mover)
    need_positive(k)
    if k >= mover:
        raise NotUsable("k", -1)
    row = [(moved, power_modulo(root, k, moved)) for moved, root in row_in(table, mover)]
    return with_row(table, mover, row)


def cut_to(table, primes):
    """Return the table with these primes alone, and the moves between two of them."""
    need_table(table)
    need_primes_of(table, primes)
    return cut(table, primes)


def joined(table, other):
    """Return the table with the primes and the moves of two tables without a common prime."""
    need_table(table)
    if not is_table(other) or any([prime in table[0] for prime in other[0]]):
        raise NotUsable("other", -1)
    return (tuple(sorted(table[0] + other[0])), tuple(sorted(table[1] + other[1])))


def pieces_of(table):
    """Return the set of the tables cut to the greatest sets of primes that hang together."""
    need_table(table)
    leaders = leaders_in(table)
    pieces = [[prime for prime in table[0] if leaders[prime] == leader] for leader in table[0]]
    return tuple([cut(table, piece) for piece in pieces if len(piece) > 0])


def leaders_in(table):
    """Return a dict that gives each prime the least one of the primes that hang together with it."""
    leaders = dict([(prime, prime) for prime in table[0]])
    for mover, moved in pairs_in(table):
        least = min(leaders[mover], leaders[moved])
        late = max(leaders[mover], leaders[moved])
        for prime in table[0]:
            if leaders[prime] == late:
                leaders[prime] = least
    return leaders
