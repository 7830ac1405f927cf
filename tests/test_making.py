"""Things that make the whole, and what rows make ([62] to [66], (S6))."""

import itertools
import unittest
from collections import Counter
from fractions import Fraction

from tests import reference, samples, wrong
from tests.support import Case
from tests.test_parts import put_into, some_parts
from tests.test_partsmade import Told
from whoacts.counts import part_count
from whoacts.leftover import table_of_part
from whoacts.making import chance_to_make, fewest_makers, makers_of, makes, rows_that_make
from whoacts.partorders import greatest_parts
from whoacts.partsmade import part_of
from whoacts.rowsmake import rows_by_divisor, rows_in

ALL = samples.SMALL + samples.MIDDLE + samples.GREAT + samples.DOCUMENT + (samples.PAIRED,)
SHORT = samples.SMALL + samples.MIDDLE[:2]


def formula(table, many):
    """The product of [64]."""
    total = 1
    moved = reference.moved_ones(table)
    for prime in table[0]:
        total *= prime ** many - (prime if prime in moved else 1)
    return total


class Makes(Case):
    def test_all_rows_of_none_one_and_two_things_of_small_tables(self):
        for table in SHORT:
            group = reference.group(table)
            things = group.things
            makers = {}
            for k in range(3):
                count = 0
                for row in itertools.product(things, repeat=k):
                    key = frozenset(row)
                    if key not in makers:
                        makers[key] = len(group.closure(row)) == len(things)
                        self.same(makes(table, row), makers[key])
                    count += makers[key]
                share = Fraction(count, len(things) ** k)
                self.same(rows_that_make(table, k), count)
                self.same(chance_to_make(table, k), (share.numerator, share.denominator))
            fewest = min(len(row) for row, good in makers.items() if good)
            self.same(fewest_makers(table), fewest)

    def test_rows_of_three_things(self):
        for table in samples.SMALL[:14]:
            group = reference.group(table)
            count = sum(len(group.closure(row)) == len(group.things) for row in itertools.product(group.things, repeat=3)) \
                if len(group.things) <= 15 else None
            if count is not None:
                self.same(rows_that_make(table, 3), count)

    def test_by_consequence(self):
        for table in ALL:
            for k in range(16):
                things = tuple(samples.spread(table, k % 5, k))
                got = makes(things=things, table=table)
                self.same(got, part_of(table, things) == (table[0], ()))
                self.same(got, self.by_rests(table, things))
                if got:
                    self.same(makes(table, things + things[:1]), True)
                    self.same(makes(table, (reference.nought(table),) + things[::-1]), True)
                if len(things) < fewest_makers(table):
                    self.same(got, False)

    def by_rests(self, table, things):
        for k, prime in enumerate(table[0]):
            pairs = [(x[k], reference.factors(table, x)[k]) for x in things]
            if prime in reference.moved_ones(table):
                if any(all((c - f * c - rest) % prime == 0 for rest, f in pairs) for c in range(prime)):
                    return False
            elif not any(rest for rest, _ in pairs):
                return False
        return True

    def test_things_of_one_greatest_part_do_not_make_the_whole(self):
        for table in (samples.MIXED, samples.THREE, samples.PAIRED, samples.TWO):
            for part in greatest_parts(table):
                things = tuple(put_into(table, part, x) for x in samples.spread(table, 4))
                self.same(makes(table, things), False)

    def test_no_things(self):
        for table in ALL:
            self.same(makes(table, ()), table[0] == ())


class Counted(Case):
    def test_great_tables(self):
        for table in ALL:
            number = reference.number(table)
            for many in (1, 2, 3, 7, 8, 39, 40):
                rows = rows_that_make(many=many, table=table)
                self.same(rows, formula(table, many))
                share = Fraction(rows, number ** many)
                self.same(chance_to_make(many=many, table=table), (share.numerator, share.denominator))
            # Of no things there is one row, which makes the part of nought.
            self.same(rows_that_make(table, 0), 1 if table[0] == () else 0)
            self.same(chance_to_make(table, 0), (1, 1) if table[0] == () else (0, 1))
            if reference.web(table):
                self.same([rows_that_make(table, 1), chance_to_make(table, 1)], [0, (0, 1)])

    def test_tables_with_one_web_have_the_same(self):
        for table in samples.GREAT + (samples.TWO,):
            other = samples.other_roots(table)
            for many in (0, 1, 2, 40):
                self.same(rows_that_make(other, many), rows_that_make(table, many))
                self.same(rows_by_divisor(other, many), rows_by_divisor(table, many))

    def test_no_primes_and_one_prime(self):
        for many in (0, 1, 2, 40):
            self.same([rows_that_make(samples.NONE, many), chance_to_make(samples.NONE, many)], [1, (1, 1)])
        self.same([rows_that_make(((7,), ()), many) for many in (0, 1, 2)], [0, 6, 48])
        self.same([chance_to_make(((7,), ()), many) for many in (0, 1, 2)], [(0, 1), (6, 7), (48, 49)])


class Fewest(Case):
    def test_fewest(self):
        for table in ALL:
            expected = 0 if table[0] == () else 2 if reference.web(table) else 1
            self.same(fewest_makers(table=table), expected)

    def test_makers(self):
        for table in ALL:
            makers = makers_of(table=table)
            self.assertIs(type(makers), tuple)
            self.same(len(makers), fewest_makers(table))
            self.assertTrue(all(reference.is_thing(table, x) for x in makers))
            self.same(makes(table, makers), True)
            self.assertTrue(Makes().by_rests(table, makers))
            for k in range(len(makers)):
                self.same(makes(table, makers[:k] + makers[k + 1:]), False)

    def test_makers_of_small_tables(self):
        for table in samples.SMALL + samples.MIDDLE:
            group = reference.group(table)
            self.same(len(group.closure(makers_of(table))), len(group.things))


class Rows(Case):
    def test_all_rows_of_none_one_and_two_things_of_small_tables(self):
        for table in SHORT:
            told = Told(table)
            group = told.group
            for k in range(3):
                count = Counter()
                known = {}
                for row in itertools.product(group.things, repeat=k):
                    key = frozenset(row)
                    if key not in known:
                        known[key] = told.part[group.closure(row)]
                    count[known[key]] += 1
                for part in told.things:
                    self.same(rows_in(table, part, k), count[part])
                expected = Counter()
                for part, number in count.items():
                    expected[part[0]] += number
                self.same(rows_by_divisor(table, k), tuple((primes, expected[primes]) for primes in reference.subsets(table[0])))

    def test_great_tables(self):
        for table in ALL:
            number = reference.number(table)
            for many in (0, 1, 2, 3, 40):
                rows = rows_by_divisor(many=many, table=table)
                self.same([primes for primes, _ in rows], reference.subsets(table[0]))
                self.same(sum(count for _, count in rows), number ** many)
                told = dict(rows)
                for part in some_parts(table)[:25]:
                    got = rows_in(many=many, part=part, table=table)
                    self.same(got, rows_that_make(table_of_part(table, part), many))
                    self.same(got * part_count(table, part[0]), told[part[0]])

    def test_edges(self):
        for table in ALL:
            self.same([rows_in(table, ((), ()), many) for many in (0, 1, 40)], [1, 1, 1])
            self.same(rows_in(table, (table[0], ()), 0), 1 if table[0] == () else 0)
            self.same([count for _, count in rows_by_divisor(table, 0)], [1] + [0] * (2 ** len(table[0]) - 1))
        self.same(rows_by_divisor(samples.NONE, 40), (((), 1),))


class WrongInputs(Case):
    def test_wrong_inputs(self):
        takes = {"table": wrong.table, "things": wrong.things, "many": wrong.many, "part": wrong.part}
        wrong.check_refusals(self, makes, {"table": samples.SIX, "things": ((1, 1), (0, 2))}, takes)
        for call in (rows_that_make, chance_to_make, rows_by_divisor):
            wrong.check_refusals(self, call, {"table": samples.SIX, "many": 2}, takes)
        wrong.check_refusals(self, rows_in, {"table": samples.SIX, "part": ((2,), ((3, 1),)), "many": 2}, takes)
        for call in (fewest_makers, makers_of):
            wrong.check_refusals(self, call, {"table": samples.SIX}, takes)


if __name__ == "__main__":
    unittest.main()
