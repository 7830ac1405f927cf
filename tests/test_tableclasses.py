"""The class Table ([21])."""

import unittest

from tests import reference, samples, wrong
from tests.support import Case
from tests.test_tablechecker import first_fault
from whoacts.errors import InvalidPaper, InvalidText, NotUsable
from whoacts.tablechanges import cut_to, joined
from whoacts.tableclasses import Table
from whoacts.tabletexts import table_text

TABLES = samples.SMALL + samples.MIDDLE + samples.GREAT + samples.DOCUMENT


def made(table):
    return Table(table[0], *table[1])


class Tables(Case):
    def test_properties(self):
        for table in TABLES:
            one = made(table)
            self.same(one.table_now, table)
            self.same(one.primes_now, table[0])
            self.same(one.web_now, tuple(reference.web(table)))

    def test_primes_by_name(self):
        self.same(Table(primes=(2, 3)).table_now, ((2, 3), ()))

    def test_any_values_raise_the_errors_of_lets_table(self):
        for value in wrong.any_values():
            for primes, rows in ((value, ()), ((2, 3), (value,)), ((2, 3), ((2, ((3, 2),)), value)), (value, (value,))):
                fault = first_fault((primes, rows))
                if fault is None:
                    self.same(Table(primes, *rows).table_now, (primes, rows))
                else:
                    self.raises(InvalidPaper, {"word": fault[0], "at": fault[1]}, Table, primes, *rows)

    def test_rows_of_primes(self):
        for table in TABLES:
            one = made(table)
            for prime in table[0]:
                self.same(one[prime], dict(table[1]).get(prime, ()))

    def test_rows_of_other_values(self):
        one = made(samples.MIXED)
        for value in wrong.any_values():
            if type(value) is int and value in samples.MIXED[0]:
                continue
            self.raises(NotUsable, {"word": "prime", "at": -1}, lambda at: one[at], value)

    def test_pairs_of_the_web_are_in_it(self):
        for table in TABLES:
            one = made(table)
            for pair in reference.web(table):
                self.same(pair in one, True)
                self.same(list(pair) in one, False)
                self.same(pair[::-1] in one, False)
                self.same(pair + pair[:1] in one, False)
        one = made(samples.MIXED)
        for value in wrong.any_values():
            self.same(value in one, repr(value) in ("(2, 5)", "(2, 7)", "(3, 7)"), value)
        self.same([(2, 11) in one, (3, 5) in one, 2 in one, (2,) in one], [False] * 4)

    def test_iteration_and_length(self):
        for table in TABLES:
            one = made(table)
            self.same(list(one), reference.web(table))
            self.same([pair for pair in one], reference.web(table))
            self.same(len(one), len(table[0]))

    def test_text(self):
        for table in TABLES:
            self.same(str(made(table)), table_text(table))

    def test_equality(self):
        for table in TABLES[::2]:
            for other in TABLES:
                self.same(made(table) == made(other), table == other)
                self.same(made(table) != made(other), table != other)
        one = made(samples.SIX)
        for value in wrong.any_values() + [samples.SIX, str(one)]:
            self.same(one == value, False)
            self.same(value == one, False)

    def test_and_is_cut_to(self):
        for table in TABLES:
            for primes in reference.subsets(table[0])[:40]:
                got = made(table) & primes
                self.assertIs(got.__class__, Table)
                self.same(got.table_now, cut_to(table, primes))
        one = made(samples.MIXED)
        for value in wrong.any_values() + [one]:
            if not reference.is_set_of(samples.MIXED[0], value):
                self.raises(NotUsable, {"word": "primes", "at": -1}, lambda primes: one & primes, value)

    def test_or_is_joined(self):
        for table in TABLES[::2]:
            for other in TABLES:
                if set(table[0]) & set(other[0]):
                    self.raises(NotUsable, {"word": "other", "at": -1}, lambda x, y: x | y, made(table), made(other))
                else:
                    got = made(table) | made(other)
                    self.assertIs(got.__class__, Table)
                    self.same(got.table_now, joined(table, other))
        one = made(samples.SIX)
        for value in wrong.any_values() + [((5, 7), ())]:
            self.raises(NotUsable, {"word": "other", "at": -1}, lambda other: one | other, value)

    def test_read(self):
        for table in TABLES:
            got = Table.read(table_text(table))
            self.assertIs(got.__class__, Table)
            self.same(got.table_now, table)
        self.same(Table.read(text="-").table_now, ((), ()))
        self.raises(InvalidText, {"line": 0, "field": 4}, Table.read, "2 3 / 2: 3^1")
        self.raises(InvalidText, {"line": 0, "field": 0}, Table.read, "")
        for value in wrong.any_values():
            if not isinstance(value, str):
                self.raises(NotUsable, {"word": "text", "at": -1}, Table.read, value)

    def test_it_never_changes(self):
        one = made(samples.MIXED)
        other = made(((13,), ()))
        for use in (lambda: one & (2, 5), lambda: one | other, lambda: list(one), lambda: one[2], lambda: str(one),
                    lambda: (2, 5) in one, lambda: one == other, lambda: len(one)):
            use()
            self.same((one.table_now, other.table_now), (samples.MIXED, ((13,), ())))
        for name in ("table_now", "primes_now", "web_now"):
            with self.assertRaises(AttributeError):
                setattr(one, name, ())
        with self.assertRaises(TypeError):
            one[2] = ()
        one &= (2, 5)
        self.same(one.table_now, ((2, 5), ((2, ((5, 4),)),)))
        self.same(made(samples.MIXED).table_now, samples.MIXED)


if __name__ == "__main__":
    unittest.main()
