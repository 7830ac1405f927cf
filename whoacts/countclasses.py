"""The plain counts of a table as objects."""

from whoacts.allcounts import counts_of
from whoacts.counts import all_parts
from whoacts.countwork import count_parts, has_whole_part
from whoacts.tablelooks import pairs_in
from whoacts.tableneeds import need_primes_of
from whoacts.webcounts import unlike_count


class Counts:
    """The plain counts of a table, which never change; iterated over, it gives the pairs of parts."""

    def __init__(self, table):
        self._counts = counts_of(table)
        self._table = table
        self._primes = table[0]
        self._web = pairs_in(table)
        self._parts = self._counts[0]

    @property
    def table_now(self):
        """Its table."""
        return self._table

    @property
    def counts_now(self):
        """The septuple of its counts."""
        return self._counts

    @property
    def web_now(self):
        """The web of its table."""
        return self._web

    def many(self):
        """Return how many parts there are."""
        return all_parts(self._table)

    def unlike(self):
        """Return how many unlike tables have its primes and its web."""
        return unlike_count(self._primes, self._web)

    def __getitem__(self, at):
        need_primes_of(self._table, at)
        return (count_parts(self._table, at), 1 if has_whole_part(self._table, at) else 0)

    def __iter__(self):
        return iter(self._parts)

    def __len__(self):
        return len(self._parts)

    def __eq__(self, other):
        return isinstance(other, Counts) and self._primes == other._primes and self._counts == other._counts
