"""The checker of papers that tell which part some things make."""

from whoacts.arithmetic import product_over
from whoacts.errors import InvalidPaper
from whoacts.kinds import is_integer_pair, is_pair
from whoacts.partneeds import is_part_of
from whoacts.partwork import put_into
from whoacts.tableneeds import need_table
from whoacts.thingneeds import need_tuple_of_things
from whoacts.thingwork import nought_in, order_in, raised_to, times


def lets_made(table, things, paper):
    """Return how many things the part of a made paper has; InvalidPaper tells why any other value is none."""
    need_table(table)
    need_tuple_of_things(table, things)
    if not is_pair(paper) or not isinstance(paper[1], tuple):
        raise InvalidPaper("shape", -1)
    part, words = paper
    if not is_part_of(table, part):
        raise InvalidPaper("part", -1)
    for k, thing in enumerate(things):
        if put_into(table, part, thing) != thing:
            raise InvalidPaper("out", k)
    if len(words) != len(part[0]):
        raise InvalidPaper("many", -1)
    for k, word in enumerate(words):
        if not is_word(things, word) or order_in(table, told_by(table, things, word)) % part[0][k] != 0:
            raise InvalidPaper("word", k)
    return product_over(part[0])


def is_word(things, value):
    """Return whether any value is a tuple of pairs (index, power), each index being one of the things."""
    if not isinstance(value, tuple):
        return False
    return all([is_integer_pair(step) and 0 <= step[0] < len(things) for step in value])


def told_by(table, things, word):
    """Return the product of the powers that a word tells."""
    total = nought_in(table)
    for at, power in word:
        total = times(table, total, raised_to(table, things[at], power))
    return total
