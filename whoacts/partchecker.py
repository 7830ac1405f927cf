"""The checker of papers that tell which part some things make."""

from whoacts.arithmetic import product_over
from whoacts.errors import InvalidPaper
from whoacts.kinds import is_pair
from whoacts.partneeds import is_part_of
from whoacts.partwork import first_outside
from whoacts.tableneeds import need_table
from whoacts.thingneeds import need_tuple_of_things
from whoacts.wordwork import words_fault


def lets_made(table, things, paper):
    """Return how many things the part of a made paper has; InvalidPaper tells why any other value is none."""
    need_table(table)
    need_tuple_of_things(table, things)
    if not is_pair(paper) or not isinstance(paper[1], tuple):
        raise InvalidPaper("shape", -1)
    part, words = paper
    if not is_part_of(table, part):
        raise InvalidPaper("part", -1)
    outside = first_outside(table, part, things)
    if outside is not None:
        raise InvalidPaper("out", outside)
    fault = words_fault(table, things, part[0], words)
    if fault is not None:
        word, at = fault
        raise InvalidPaper(word, at)
    return product_over(part[0])
