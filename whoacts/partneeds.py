"""What functions need of their parameters: parts of a table."""

from whoacts.errors import NotUsable
from whoacts.kinds import is_integer_pair, is_pair
from whoacts.partwork import spot_primes
from whoacts.tableneeds import is_set_of


def is_part_of(table, value):
    """Return whether any value tells a part of the table."""
    if not is_pair(value) or not is_set_of(table[0], value[0]) or not isinstance(value[1], tuple):
        return False
    wanted = spot_primes(table, value[0])
    if len(value[1]) != len(wanted):
        return False
    return all([is_spot_at(prime, spot) for prime, spot in zip(wanted, value[1])])


def is_spot_at(prime, value):
    """Return whether any value is a pair of this prime and a spot there."""
    return is_integer_pair(value) and value[0] == prime and 0 <= value[1] < prime


def need_part(table, part, word="part"):
    """Refuse any value that tells no part of the table; word is the name of the parameter."""
    if not is_part_of(table, part):
        raise NotUsable(word, -1)


def need_tuple_of_parts(table, parts):
    """Refuse any value that is no tuple of parts of the table."""
    if not isinstance(parts, tuple) or not all([is_part_of(table, part) for part in parts]):
        raise NotUsable("parts", -1)


def need_whole_part(table, part):
    """Refuse any value that tells no whole part of the table."""
    if not is_part_of(table, part) or not is_whole_part(part):
        raise NotUsable("part", -1)


def is_whole_part(part):
    """Return whether a part is whole."""
    return len(part[1]) == 0
