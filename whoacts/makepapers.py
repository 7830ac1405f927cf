"""Papers that tell why some things make the whole, or why they do not."""

from whoacts.partwork import least_part
from whoacts.tableneeds import need_table
from whoacts.thingneeds import need_tuple_of_things
from whoacts.wordwork import words_for


def makes_paper(table, things):
    """Return any paper that lets_makes accepts: words for all primes, or a part that holds all these things."""
    need_table(table)
    need_tuple_of_things(table, things)
    part = least_part(table, things)
    if part[0] == table[0]:
        return ("makes", words_for(table, things, table[0]))
    return ("within", part)
