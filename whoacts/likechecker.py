"""The checker of papers that tell whether two tables are alike."""

from whoacts.arithmetic import product_over
from whoacts.errors import InvalidPaper
from whoacts.kinds import is_integer, is_number
from whoacts.likework import moved_in_row, row_power
from whoacts.mapneeds import need_two_tables
from whoacts.mapwork import is_exact, tells_map
from whoacts.paperwork import word_of
from whoacts.tablelooks import movers_in
from whoacts.twisting import count_twisted

# How many values a paper of each form has, its word included.
SIZES = {"alike": 2, "primes": 1, "web": 2, "row": 2, "twist": 2}


def lets_alike(table, other, paper):
    """Return whether both tables are alike, as a paper tells it.

    InvalidPaper tells why any other value is no such paper.
    """
    need_two_tables(table, other)
    if not has_form(paper):
        raise InvalidPaper("shape", -1)
    if not tells_truly(table, other, paper):
        raise InvalidPaper(paper[0], -1)
    return paper[0] == "alike"


def has_form(paper):
    """Return whether any value is a tuple of one of the forms, by its word and the number of its values."""
    word = word_of(paper)
    return word is not None and SIZES.get(word) == len(paper)


def tells_truly(table, other, paper):
    """Return whether a paper of one of the forms states what is so, whatever value stands there."""
    if paper[0] == "alike":
        return tells_map(table, other, paper[1]) and is_exact(table, other, paper[1])
    if paper[0] == "primes":
        return table[0] != other[0]
    if table[0] != other[0]:
        return False
    if paper[0] == "web":
        return is_integer(paper[1]) and moved_in_row(table, paper[1]) != moved_in_row(other, paper[1])
    if paper[0] == "row":
        return is_unlike_row(table, other, paper[1])
    return is_unlike_twist(table, other, paper[1])


def is_unlike_row(table, other, value):
    """Return whether any value is a mover of the same primes in both tables whose rows are not up to a power."""
    if not is_integer(value) or value not in movers_in(table):
        return False
    if moved_in_row(table, value) != moved_in_row(other, value):
        return False
    return row_power(table, other, value) is None


def is_unlike_twist(table, other, value):
    """Return whether any value is a number, less than that of the tables, for which the twisted counts differ."""
    if not is_number(value) or value >= product_over(table[0]):
        return False
    return count_twisted(table, value) != count_twisted(other, value)
