"""Tables as objects."""

from whoacts.errors import NotUsable
from whoacts.kinds import is_integer_pair
from whoacts.tablechanges import cut_to, joined
from whoacts.tablechecker import lets_table
from whoacts.tablelooks import pairs_in, row_in
from whoacts.tableneeds import need_prime_of
from whoacts.tablereadings import table_read
from whoacts.tabletexts import table_text


class Table:
    """A table that never changes; iterated over, it gives its web."""

    def __init__(self, primes, *rows):
        lets_table((primes, rows))
        self._table = (primes, rows)
        self._web = pairs_in(self._table)

    @classmethod
    def read(cls, text):
        """Return the Table that any string writes."""
        primes, rows = table_read(text)
        return cls(primes, *rows)

    @property
    def table_now(self):
        """The table itself."""
        return self._table

    @property
    def primes_now(self):
        """The set of its primes."""
        return self._table[0]

    @property
    def web_now(self):
        """Its web."""
        return self._web

    def __getitem__(self, at):
        need_prime_of(self._table, at)
        return row_in(self._table, at)

    def __contains__(self, x):
        return is_integer_pair(x) and x in self._web

    def __iter__(self):
        return iter(self._web)

    def __len__(self):
        return len(self._table[0])

    def __str__(self):
        return str(table_text(self._table))

    def __eq__(self, other):
        return isinstance(other, Table) and self._table == other._table

    def __and__(self, other):
        primes, rows = cut_to(self._table, other)
        return Table(primes, *rows)

    def __or__(self, other):
        if not isinstance(other, Table):
            raise NotUsable("other", -1)
        primes, rows = joined(self._table, other._table)
        return Table(primes, *rows)
