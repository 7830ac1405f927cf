"""Things as objects."""

from whoacts.errors import NotUsable
from whoacts.kinds import is_integer_pair
from whoacts.tableneeds import need_integer, need_prime_of, need_table
from whoacts.thingneeds import need_thing
from whoacts.things import nought_of
from whoacts.thingwork import back_to, order_in, raised_to, times, turn


class Thing:
    """A thing of a table that never changes; iterated over, it gives the pairs (prime, rest)."""

    def __init__(self, table, rests):
        need_table(table)
        need_thing(table, rests, "rests")
        self._table = table
        self._rests = rests
        self._pairs = tuple(zip(table[0], rests))

    @classmethod
    def nought(cls, table):
        """Return the Thing with all rests 0."""
        return cls(table, nought_of(table))

    @property
    def table_now(self):
        """Its table."""
        return self._table

    @property
    def rests_now(self):
        """Its rests, in the order of the primes."""
        return self._rests

    @property
    def order_now(self):
        """Its order."""
        return order_in(self._table, self._rests)

    def raised(self, k):
        """Return the Thing that is its power to the integer k."""
        need_integer(k)
        return Thing(self._table, raised_to(self._table, self._rests, k))

    def turned(self, other):
        """Return the Thing that is other times it times the back of other."""
        need_fellow(self, other)
        return Thing(self._table, turn(self._table, self._rests, other._rests))

    def __mul__(self, other):
        need_fellow(self, other)
        return Thing(self._table, times(self._table, self._rests, other._rests))

    def __neg__(self):
        return Thing(self._table, back_to(self._table, self._rests))

    def __getitem__(self, at):
        need_prime_of(self._table, at)
        return dict(self._pairs)[at]

    def __contains__(self, x):
        return is_integer_pair(x) and x in self._pairs

    def __iter__(self):
        return iter(self._pairs)

    def __len__(self):
        return len(self._rests)

    def __str__(self):
        return " ".join([str(rest) for rest in self._rests])

    def __eq__(self, other):
        return isinstance(other, Thing) and self._table == other._table and self._rests == other._rests


def need_fellow(thing, other):
    """Refuse any value that is no Thing of the table of a Thing."""
    if not isinstance(other, Thing) or other._table != thing._table:
        raise NotUsable("other", -1)
