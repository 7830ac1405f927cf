"""Looks at tables that are known to be tables: nothing is checked here."""


def movers_in(table):
    """Return the set of the movers of a table."""
    return tuple([mover for mover, _ in table[1]])


def row_in(table, prime):
    """Return the row of a prime, () if it is no mover."""
    for mover, row in table[1]:
        if mover == prime:
            return row
    return ()


def pairs_in(table):
    """Return the web of a table."""
    return tuple([(mover, moved) for mover, row in table[1] for moved, _ in row])


def moved_by(table, primes):
    """Return the set of the primes that a mover among these primes moves."""
    movers = dict([(prime, True) for prime in primes])
    found = dict([(moved, True) for mover, moved in pairs_in(table) if mover in movers])
    return tuple([prime for prime in table[0] if prime in found])


def moving(table, primes):
    """Return the set of the movers that move one of these primes."""
    return tuple([mover for mover, row in table[1] if any([moved in primes for moved, _ in row])])


def roots_at(table, prime):
    """Return the list of pairs (mover, root) of the movers that move this prime."""
    return [(mover, root) for mover, row in table[1] for moved, root in row if moved == prime]


def moved_in(table):
    """Return the set of the primes that are moved."""
    return moved_by(table, table[0])


def unmoving_in(table):
    """Return the set of the primes that are no movers."""
    movers = movers_in(table)
    return tuple([prime for prime in table[0] if prime not in movers])


def still_in(table):
    """Return the set of the primes that neither move nor are moved."""
    busy = dict([(prime, True) for prime in movers_in(table) + moved_in(table)])
    return tuple([prime for prime in table[0] if prime not in busy])


def with_rows(primes, rows):
    """Return the table with these primes and, of a list of pairs of a mover and its row, the rows not empty."""
    return (tuple(primes), tuple([(mover, tuple(row)) for mover, row in rows if len(row) > 0]))


def cut(table, primes):
    """Return the table with some of its primes alone, and the moves between two of them."""
    kept = dict([(prime, True) for prime in primes])
    rows = [(mover, [step for step in row if step[0] in kept]) for mover, row in table[1] if mover in kept]
    return with_rows(primes, rows)
