"""What functions need of their parameters: things of a table."""

from whoacts.errors import NotUsable
from whoacts.kinds import is_number


def is_thing_of(table, value):
    """Return whether any value is a thing of the table."""
    if not isinstance(value, tuple) or len(value) != len(table[0]):
        return False
    return all([is_number(rest) and rest < prime for prime, rest in zip(table[0], value)])


def need_thing(table, thing, word="thing"):
    """Refuse any value that is no thing of the table; word is the name of the parameter."""
    if not is_thing_of(table, thing):
        raise NotUsable(word, -1)


def need_all_things(table, things):
    """Refuse the first of several values that is no thing of the table, by its index."""
    for k, thing in enumerate(things):
        if not is_thing_of(table, thing):
            raise NotUsable("things", k)


def need_tuple_of_things(table, things):
    """Refuse any value that is no tuple of things of the table."""
    if not isinstance(things, tuple) or not all([is_thing_of(table, thing) for thing in things]):
        raise NotUsable("things", -1)
