"""The checker of papers that tell whether two things are of one class."""

from whoacts.classwork import free_primes, is_away, powers_at, quotient
from whoacts.errors import InvalidPaper
from whoacts.exchanging import need_two_things
from whoacts.kinds import is_integer
from whoacts.paperwork import word_of
from whoacts.tablelooks import movers_in
from whoacts.tableneeds import is_prime_of
from whoacts.thingneeds import is_thing_of
from whoacts.thingwork import turn

# How many values a paper of each form has, its word included.
SIZES = {"same": 2, "mover": 2, "away": 2, "unlike": 4}
# What is refused where a paper of each form is not as told: of one form the value that stands there.
REFUSED = {"same": "turner", "mover": "mover", "away": "away", "unlike": "unlike"}


def lets_class(table, thing, other, paper):
    """Return whether both things are of one class, as a paper tells it.

    InvalidPaper tells why any other value is no such paper.
    """
    need_two_things(table, thing, other)
    if not has_form(paper):
        raise InvalidPaper("shape", -1)
    if not tells_truly(table, thing, other, paper):
        raise InvalidPaper(REFUSED[paper[0]], -1)
    return paper[0] == "same"


def has_form(paper):
    """Return whether any value is a tuple of one of the forms, by its word and the number of its values."""
    word = word_of(paper)
    return word is not None and SIZES.get(word) == len(paper)


def tells_truly(table, thing, other, paper):
    """Return whether a paper of one of the forms states what is so, whatever values stand there."""
    if paper[0] == "same":
        return is_thing_of(table, paper[1]) and turn(table, thing, paper[1]) == other
    if paper[0] == "mover":
        return is_unlike_mover(table, thing, other, paper[1])
    if paper[0] == "away":
        return is_away_prime(table, thing, other, paper[1])
    _, mover, prime, late = paper
    if not is_integer(mover):
        return False
    powers = [power_in_quotient(table, thing, other, mover, value) for value in (prime, late)]
    return None not in powers and powers[0] != powers[1]


def is_unlike_mover(table, thing, other, value):
    """Return whether any value is a mover at which the rests of both things differ."""
    if not is_integer(value) or value not in movers_in(table):
        return False
    at = table[0].index(value)
    return thing[at] != other[at]


def is_away_prime(table, thing, other, value):
    """Return whether any value is a free prime at which the thing's rest cannot be turned to that of other."""
    if not is_free(table, thing, value):
        return False
    at = table[0].index(value)
    return is_away(table, value, thing[at], other[at])


def power_in_quotient(table, thing, other, mover, value):
    """Return the power of the mover's root in the quotient at any value; None if this is no free prime with one."""
    if not is_free(table, thing, value):
        return None
    at = table[0].index(value)
    if thing[at] == 0:
        return None
    powers = powers_at(table, value, quotient(thing[at], other[at], value))
    return None if powers is None else dict(powers).get(mover)


def is_free(table, thing, value):
    """Return whether any value is a free prime of the thing."""
    return is_prime_of(table, value) and value in free_primes(table, thing)
