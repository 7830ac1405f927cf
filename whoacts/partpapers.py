"""Papers that tell why some things make just one part."""

from whoacts.partwork import least_part
from whoacts.tableneeds import need_table
from whoacts.thingneeds import need_tuple_of_things
from whoacts.wordwork import words_for


def made_paper(table, things):
    """Return any paper that lets_made accepts: the part that the things make, and a word for each of its primes."""
    need_table(table)
    need_tuple_of_things(table, things)
    part = least_part(table, things)
    return (part, words_for(table, things, part[0]))
