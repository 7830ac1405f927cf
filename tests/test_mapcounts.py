"""Maps counted, and parts alike to a told table ([77] [78] [79], (S7))."""

import itertools
import unittest

from tests import mapsamples, reference, samples, wrong
from tests.support import Case
from tests.test_likeness import beside
from tests.test_parts import some_parts
from whoacts.counts import part_count, turning_count
from whoacts.leftover import left_of, table_of_part
from whoacts.likeness import are_alike
from whoacts.mapcounts import how_many_into, how_many_maps, how_many_onto
from whoacts.partsalike import part_alike, parts_alike

ALL = samples.SMALL + samples.MIDDLE[::2] + samples.GREAT + samples.DOCUMENT + (samples.PAIRED, samples.PARTED)
PAIR = ((2,), ())


def counted(table, other):
    """How many maps there are, how many of them one to one, how many onto, by going through all tuples of things."""
    ends = [len(set(told.values())) for told in reference.all_maps(table, other).values()]
    return [len(ends), ends.count(reference.number(table)), ends.count(reference.number(other))]


def parts_reached(table, other):
    """All parts of the table that are the things to which a map of other leads one to one."""
    maps = reference.all_maps(other, table).values()
    return {frozenset(told.values()) for told in maps if len(set(told.values())) == reference.number(other)}


class Counted(Case):
    def told(self, table, other):
        return [call(table=table, other=other) for call in (how_many_maps, how_many_into, how_many_onto)]

    def test_all_tuples_of_things_of_small_tables(self):
        for table, other in itertools.product(samples.SMALL, repeat=2):
            self.same(self.told(table, other), counted(table, other), (table, other))

    def test_greater_tables(self):
        fours = samples.all_tables((3, 7, 13))[-1]
        for table, other in ((samples.TWO, samples.TWIN), (samples.TWO, fours), (samples.TWO, samples.SIX),
                             (samples.SIX, samples.TWO), (samples.WIDE, samples.SIX), (samples.SIX, samples.WIDE),
                             (samples.WIDE, samples.all_tables((2, 3, 7))[4]), (samples.all_tables((2, 3, 11))[1], samples.SIX),
                             (samples.all_tables((2, 3, 7))[5], samples.MIXED), (samples.SIX, samples.MIXED)):
            self.same(self.told(table, other), counted(table, other), (table, other))

    def test_by_consequence(self):
        for table in ALL:
            for other in beside(table):
                into = parts_alike(other, table) * turning_count(table)
                self.same(how_many_into(table, other), into)
                total = 0
                onto = 0
                for primes in reference.subsets(table[0]):
                    if not reference.moved_outside(table, primes):
                        left = left_of(table, (primes, ()))
                        total += parts_alike(other, left) * turning_count(left)
                        onto += turning_count(other) if are_alike(left, other) else 0
                self.same(how_many_maps(table, other), total)
                self.same(how_many_onto(table, other), onto)

    def test_a_table_and_itself(self):
        for table in ALL:
            turnings = turning_count(table)
            self.same([how_many_into(table, table), how_many_onto(table, table)], [turnings, turnings])
            alike = mapsamples.powered_rows(table)
            self.same([how_many_into(table, alike), how_many_onto(table, alike)], [turnings, turnings])
            self.same(how_many_maps(table, alike), how_many_maps(table, table))

    def test_tables_of_one_web_by_other_roots(self):
        for table in ALL:
            other = samples.other_roots(table)
            if not are_alike(table, other):
                self.same([how_many_into(table, other), how_many_onto(table, other)], [0, 0])
                self.assertGreater(how_many_maps(table, other), 0)
                self.assertLess(how_many_maps(table, other), how_many_maps(table, table))

    def test_no_primes_and_one_prime(self):
        for table in ALL:
            self.same(self.told(samples.NONE, table), [1, 1, 1 if table[0] == () else 0])
            self.same(self.told(table, samples.NONE), [1, 1 if table[0] == () else 0, 1])
            for prime in table[0]:
                one = ((prime,), ())
                # A map of a prime is told by any thing whose power to it is nought.
                many = part_count(table, (prime,)) * (prime - 1)
                self.same(self.told(one, table), [many + 1, many, many if len(table[0]) == 1 else 0])
                onto = 0 if prime in reference.moved_ones(table) else prime - 1
                self.same(self.told(table, one)[2], onto)
        self.same([self.told(PAIR, ((3,), ())), self.told(PAIR, PAIR)], [[1, 0, 0], [2, 1, 1]])

    def test_still_primes_alone(self):
        table, other = ((2, 3, 5), ()), ((3, 5, 7), ())
        self.same(self.told(table, other), [15, 0, 0])
        self.same(self.told(table, ((3, 5), ())), [15, 0, 8])
        self.same(self.told(((3, 5), ()), table), [15, 8, 0])


class PartsAlike(Case):
    def test_all_parts_of_small_tables(self):
        for table, other in itertools.product(samples.SMALL, repeat=2):
            found = parts_reached(table, other)
            self.same(parts_alike(other=other, table=table), len(found))
            part = part_alike(other=other, table=table)
            if found:
                self.assertTrue(reference.is_part(table, part))
                things = frozenset(x for x in reference.all_things(table) if reference.holds(table, part, x))
                self.assertIn(things, found)
            else:
                self.assertIsNone(part)

    def test_by_the_tables_of_all_parts(self):
        for table in samples.SMALL + samples.MIDDLE[::3] + (samples.TWO, samples.WIDE, samples.MIXED):
            parts = reference.told_parts(table)
            others = {mapsamples.cut(table, part[0]) for part in parts} | set(beside(table)) | set(samples.SMALL[::4])
            for other in sorted(others):
                for late in (other, mapsamples.powered_rows(other), samples.other_roots(other)):
                    found = [part for part in parts if are_alike(table_of_part(table, part), late)]
                    self.same(parts_alike(table, late), len(found))
                    part = part_alike(table, late)
                    self.assertTrue(part in found if found else part is None)

    def test_great_tables(self):
        for table in ALL:
            for part in some_parts(table)[:20]:
                other = table_of_part(table, part)
                for late in (other, mapsamples.powered_rows(other)):
                    self.same(parts_alike(table, late), part_count(table, part[0]))
                    got = part_alike(table, late)
                    self.assertTrue(reference.is_part(table, got))
                    self.same(got[0], part[0])
                late = samples.other_roots(other)
                self.same(parts_alike(table, late), part_count(table, part[0]) if are_alike(other, late) else 0)
                self.same(part_alike(table, late) is None, not are_alike(other, late))
            self.same([parts_alike(table, samples.NONE), part_alike(table, samples.NONE)], [1, ((), ())])
            self.same([parts_alike(table, table), part_alike(table, table)], [1, (table[0], ())])

    def test_other_primes(self):
        more = ((2, 3, 11, 13), samples.SIX[1])
        self.same([parts_alike(samples.SIX, more), part_alike(samples.SIX, more)], [0, None])
        self.same([parts_alike(more, samples.SIX), part_alike(more, samples.SIX)], [1, ((2, 3), ())])
        self.same([parts_alike(samples.SIX, ((2, 3), ())), part_alike(samples.SIX, ((5,), ()))], [0, None])


class WrongInputs(Case):
    def test_wrong_inputs(self):
        takes = {"table": wrong.table, "other": wrong.other_table}
        for call in (how_many_maps, how_many_into, how_many_onto, parts_alike, part_alike):
            wrong.check_refusals(self, call, {"table": samples.SIX, "other": samples.TWO}, takes)


if __name__ == "__main__":
    unittest.main()
