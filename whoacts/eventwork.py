"""Work on events that are known to be such by form: why one is not possible, and what it makes of a table."""

from whoacts.kinds import can_move, is_prime, is_root
from whoacts.tablechanges import powered, with_move, with_prime, without_move
from whoacts.tablelooks import moved_in, movers_in, pairs_in
from whoacts.webwork import MOST_PRIMES


def reason_against(table, event):
    """Return the reason for which an event, which is no note, is not possible now, None if it is."""
    word = event[0]
    if word == "prime":
        return reason_against_prime(table, event[1])
    # An event of each other word tells a prime of the table; one that moves or drops tells two.
    told = event[1:3] if word in ("move", "drop") else event[1:2]
    if any([prime not in table[0] for prime in told]):
        return "prime"
    if word == "move":
        _, mover, moved, root = event
        return reason_against_move(table, mover, moved, root)
    if word == "drop":
        return None if told in pairs_in(table) else "moved"
    return reason_against_power(table, event[1], event[2])


def reason_against_prime(table, prime):
    """Return the reason for which a number cannot be one more prime of the table, None if it can."""
    if not is_prime(prime) or prime in table[0]:
        return "prime"
    return "many" if len(table[0]) >= MOST_PRIMES else None


def reason_against_move(table, mover, moved, root):
    """Return the reason for which one prime of the table cannot move another one by a root, None if it can."""
    if mover in moved_in(table):
        return "mover"
    if moved == mover or moved in movers_in(table) or (mover, moved) in pairs_in(table) or not can_move(mover, moved):
        return "moved"
    return None if is_root(root, mover, moved) else "root"


def reason_against_power(table, mover, power):
    """Return the reason for which the row of a prime of the table cannot be taken to a power, None if it can."""
    if mover not in movers_in(table):
        return "mover"
    return None if 1 <= power < mover else "power"


def table_behind(table, event):
    """Return the table behind an event that is possible, and is no note."""
    if event[0] == "prime":
        return with_prime(table, event[1])
    if event[0] == "move":
        return with_move(table, event[1], event[2], event[3])
    if event[0] == "drop":
        return without_move(table, event[1], event[2])
    return powered(table, event[1], event[2])
