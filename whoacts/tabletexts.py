"""Tables written as text."""

from whoacts.tableneeds import need_table


def table_text(table):
    """Return the line that writes the table."""
    need_table(table)
    if len(table[0]) == 0:
        return "-"
    words = [str(prime) for prime in table[0]]
    for mover, row in table[1]:
        words = words + ["/", f"{mover}:"] + [f"{moved}^{root}" for moved, root in row]
    return " ".join(words)
