"""Which tables are alike, by which maps, and plain tables ([9] [75] [76], (W2))."""

import itertools
import unittest

from tests import mapsamples, reference, samples, wrong
from tests.mapsamples import powered_rows
from tests.support import Case
from whoacts.likeness import all_plain, are_alike, likeness_of, plain_of, power_between
from whoacts.mapping import kernel_of, map_behind, range_of
from whoacts.maps import is_map, units_of
from whoacts.tablechanges import powered
from whoacts.webcounts import unlike_count

FIVES = samples.all_tables((5, 11, 31))
ALL = samples.SMALL + samples.MIDDLE + samples.GREAT + samples.DOCUMENT + (samples.PAIRED, samples.PARTED) + tuple(FIVES[::7])


def rows_apart(table, other, mover):
    """The least number to which a mover's row in other is its row in the table, by trying each; None without one."""
    row, late = dict(dict(table[1]).get(mover, ())), dict(dict(other[1]).get(mover, ()))
    if sorted(row) != sorted(late) or not row:
        return None
    for k in range(1, mover):
        if all(pow(late[q], k, q) == row[q] for q in row):
            return k
    return None


def is_like(table, other):
    """Whether two tables are alike, as (W2) says."""
    if table[0] != other[0] or reference.web(table) != reference.web(other):
        return False
    return all(rows_apart(table, other, mover) is not None for mover in reference.movers(table))


def least_rows(table):
    """The table with the least of the powers of each row, by trying each."""
    moves = []
    for mover, row in table[1]:
        moves.append((mover, min(tuple((q, pow(root, k, q)) for q, root in row) for k in range(1, mover))))
    return (table[0], tuple(moves))


def with_web(table):
    """All tables with the same primes and web, by trying all roots."""
    rows = []
    for mover, row in table[1]:
        choices = itertools.product(*[samples.roots(mover, q) for q, _ in row])
        rows.append([(mover, tuple(zip([q for q, _ in row], chosen))) for chosen in choices])
    return [(table[0], moves) for moves in itertools.product(*rows)]


def beside(table):
    """Tables to stand beside it: alike ones, ones of the same web, with other webs, with more and with fewer primes."""
    found = [table, powered_rows(table, 1), powered_rows(table, 2), samples.other_roots(table), (table[0], ()),
             samples.other_roots(table, 2), samples.SIX, samples.NONE]
    if table[0]:
        found.append(mapsamples.cut(table, table[0][1:]))
        found.append(mapsamples.cut(table, table[0][:-1]))
    more = max(prime for prime in reference.PRIMES if prime not in table[0])
    found.append((tuple(sorted(table[0] + (more,))), table[1]))
    if table[1]:
        mover, row = table[1][0]
        found.append((table[0], table[1][1:]))
        found.append((table[0], ((mover, row[1:]),) + table[1][1:] if row[1:] else table[1][1:]))
    return found


class PowerBetween(Case):
    def test_by_trying_every_power(self):
        for table in ALL:
            for other in beside(table):
                for mover in reference.movers(table):
                    if mover < 400:
                        self.same(power_between(mover=mover, other=other, table=table), rows_apart(table, other, mover))

    def test_all_tables_of_one_web(self):
        for primes in ((3, 7, 13), (2, 3, 7), (5, 11, 31)):
            tables = samples.all_tables(primes)
            for table in tables[::3]:
                for other in tables:
                    for mover in reference.movers(table):
                        self.same(power_between(table, other, mover), rows_apart(table, other, mover))

    def test_powered_and_back(self):
        for table in ALL:
            for mover in reference.movers(table):
                for k in {1, 2 % mover, mover - 1, mover // 2} - {0}:
                    other = powered(table, mover, k)
                    self.same(power_between(other, table, mover), k)
                    self.same(power_between(table, other, mover) * k % mover, 1)

    def test_great_movers(self):
        table = samples.GREAT[3]
        self.same(power_between(powered(table, 4943, 4942), table, 4943), 4942)
        self.same(power_between(powered(table, 4943, 2471), table, 4943), 2471)

    def test_other_movers_rows_and_primes(self):
        two = samples.TWO
        for other in (((3, 7, 13), ()), ((3, 7, 13), ((3, ((7, 2),)),)), ((7, 13), ()), samples.NONE, samples.SIX,
                      ((3, 7, 13, 19), ((3, ((7, 2), (13, 3), (19, 7))),)), ((2, 3, 7, 13), ((2, ((7, 6), (13, 12))),))):
            self.same(power_between(two, other, 3), None)
        # Other primes, and other movers, are let.
        for other in (((2, 3, 7, 13), two[1]), samples.PAIRED, ((3, 5, 7, 11, 13), (two[1][0], (5, ((11, 3),))))):
            self.same(power_between(two, other, 3), 1)
        self.same(power_between(two, samples.PARTED, 3), None)


class Alike(Case):
    def test_by_trying_the_maps(self):
        for table, other in itertools.product(samples.SMALL, repeat=2):
            maps = reference.all_maps(table, other)
            found = [images for images, told in maps.items() if len(set(told.values())) == len(reference.all_things(other))
                     and len(told) == len(reference.all_things(other))]
            self.same(are_alike(other=other, table=table), found != [])
            images = likeness_of(other=other, table=table)
            if found:
                self.assertIn(images, found)
            else:
                self.assertIsNone(images)

    def test_two_and_twin_by_trying_the_maps(self):
        fours = samples.all_tables((3, 7, 13))[-1]
        for other in (samples.TWO, samples.TWIN, fours):
            maps = reference.all_maps(samples.TWO, other)
            found = [images for images, told in maps.items() if len(set(told.values())) == 273]
            self.same(are_alike(samples.TWO, other), found != [])
            images = likeness_of(samples.TWO, other)
            self.assertTrue(images in found if found else images is None)

    def test_all_tables_with_some_primes(self):
        for primes in ((3, 7, 13), (2, 3, 7), (2, 3, 11), (5, 11, 31)):
            tables = samples.all_tables(primes)
            for table in tables[::5] + tables[1::7]:
                for other in tables:
                    self.same(are_alike(table, other), is_like(table, other))

    def test_great_tables(self):
        for table in ALL:
            for other in beside(table):
                expected = table[0] == other[0] and reference.web(table) == reference.web(other) and least_of(
                    table) == least_of(other)
                self.same(are_alike(table, other), expected)
                self.same(are_alike(other, table), expected)
                images = likeness_of(table, other)
                if not expected:
                    self.assertIsNone(images)
                    continue
                self.same(is_map(table, other, images), True)
                self.same(kernel_of(table, other, images), ((), ()))
                self.same(range_of(table, other, images), (other[0], ()))
                both = map_behind(table, other, table, images, likeness_of(other, table))
                self.same(is_map(table, table, both), True)
                self.same(kernel_of(table, table, both), ((), ()))

    def test_by_consequence(self):
        for table in ALL:
            for other in beside(table):
                told = table[0] == other[0] and reference.movers(table) == reference.movers(other) and all(
                    power_between(table, other, mover) is not None for mover in reference.movers(table))
                self.same(are_alike(table, other), told)
                self.same(plain_of(table) == plain_of(other), told)

    def test_a_table_and_itself(self):
        for table in ALL:
            self.same(are_alike(table, table), True)
            self.same(is_map(table, table, likeness_of(table, table)), True)
        self.same([are_alike(samples.NONE, samples.NONE), likeness_of(samples.NONE, samples.NONE)], [True, ()])
        self.same(likeness_of(samples.SIX, samples.SIX), units_of(samples.SIX))


def least_of(table):
    """plain_of, found by the least root of the first moved prime alone, as trying all powers takes long."""
    moves = []
    for mover, row in table[1]:
        k = min(range(1, mover), key=lambda k: pow(row[0][1], k, row[0][0]))
        moves.append((mover, tuple((q, pow(root, k, q)) for q, root in row)))
    return (table[0], tuple(moves))


class Plain(Case):
    def test_by_trying_every_power(self):
        for table in ALL:
            for other in (table, samples.other_roots(table), samples.other_roots(table, 3), powered_rows(table, 5)):
                expected = least_rows(other) if max(reference.movers(table), default=0) < 400 else least_of(other)
                got = plain_of(table=other)
                self.same(got, expected)
                self.same(plain_of(got), got)
                self.same(are_alike(got, other), True)

    def test_powers_have_one_plain_table(self):
        for table in ALL:
            for k in range(4):
                self.same(plain_of(powered_rows(table, k)), plain_of(table))

    def test_all_plain_by_trying_all_roots(self):
        for table in ALL:
            many = 1
            for mover, row in table[1]:
                many *= (mover - 1) ** len(row)
            if many <= 20000:
                expected = tuple(sorted({least_of(other) for other in with_web(table)}))
                self.same(all_plain(table=table), expected)

    def test_all_plain_by_consequence(self):
        for table in ALL:
            web = tuple(reference.web(table))
            many = 1
            for mover, row in table[1]:
                many *= (mover - 1) ** (len(row) - 1)
            if many > 2000:
                continue
            found = all_plain(table)
            self.assertIs(type(found), tuple)
            self.same(len(found), many)
            if len(table[0]) <= 8:
                self.same(unlike_count(table[0], web), many)
            self.same(found, tuple(sorted(set(found))))
            self.assertIn(plain_of(table), found)
            for other in found[::11]:
                self.same([reference.is_table(other), other[0], tuple(reference.web(other))], [True, table[0], web])
                self.same(plain_of(other), other)
                self.same(are_alike(other, found[0]), other == found[0])

    def test_many_plain_tables(self):
        table = samples.great_table((11, 23, 67, 89, 199), ((11, 23), (11, 67), (11, 89), (11, 199)))
        found = all_plain(table)
        self.same([len(found), len(set(found)), plain_of(table) in found], [1000, 1000, True])

    def test_edges(self):
        self.same([plain_of(samples.NONE), all_plain(samples.NONE)], [samples.NONE, (samples.NONE,)])
        self.same([plain_of(((7,), ())), all_plain(((2, 3), ()))], [((7,), ()), (((2, 3), ()),)])
        self.same(all_plain(samples.THREE), (least_rows(samples.THREE),))
        # Of its two rows of two primes each that of 2 has one power, that of 3 two at the late prime.
        self.same(len(all_plain(samples.PAIRED)), 2)
        self.same(all_plain(samples.PAIRED), all_plain(samples.PARTED))


class WrongInputs(Case):
    def test_wrong_inputs(self):
        takes = {"table": wrong.table, "other": wrong.other_table, "mover": wrong.mover}
        wrong.check_refusals(self, power_between, {"table": samples.SIX, "other": samples.TWO, "mover": 2}, takes)
        for call in (are_alike, likeness_of):
            wrong.check_refusals(self, call, {"table": samples.SIX, "other": samples.TWO}, takes)
        for call in (plain_of, all_plain):
            wrong.check_refusals(self, call, {"table": samples.SIX}, takes)
        wrong.is_refused(self, "mover", power_between, samples.TWO, samples.TWO, 7)
        wrong.is_refused(self, "mover", power_between, samples.SIX, samples.TWO, 3)


if __name__ == "__main__":
    unittest.main()
