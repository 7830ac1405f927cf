"""Parts side by side ([39], (S1))."""

import unittest

from tests import reference, samples, wrong
from tests.support import Case
from tests.test_parts import put_into, some_parts
from tests.test_partsmade import Told
from whoacts.partorders import chain_to, greatest_parts, how_many_turned, lies_in, part_turner
from whoacts.partsmade import join_of, meet_of, part_of, turned_part
from whoacts.wholeparts import kept_by

ALL = samples.SMALL + samples.MIDDLE + samples.GREAT + samples.DOCUMENT + (samples.PAIRED,)
# Great primes that are still, and moved ones that are not too many to be listed.
LISTED = (
    samples.great_table((2, 3, 31, 37, 9929, 9931, 9941, 9949), ((2, 31), (3, 31), (3, 37))),
    samples.great_table((2, 3, 5, 7, 11, 13, 17, 1621), ((2, 1621), (3, 1621), (3, 7), (2, 11), (5, 11), (3, 13))),
    samples.great_table((5, 7, 11, 29, 31, 71, 9923, 9967), ((5, 11), (7, 29), (5, 31), (5, 71), (7, 71))),
    samples.GREAT[4],
)


def told_within(table, part, other):
    """Whether a part lies in another one, by how both are told."""
    primes, spots = other
    if not set(part[0]) <= set(primes):
        return False
    return all(q in primes or dict(spots)[q] == spot for q, spot in part[1])


class LiesIn(Case):
    def test_all_pairs_of_parts_of_small_tables(self):
        for table in samples.SMALL + samples.MIDDLE[:5]:
            told = Told(table)
            parts = list(told.things)
            for part in parts[::1 if len(parts) < 60 else 3]:
                for other in parts:
                    expected = told.things[part] <= told.things[other]
                    self.same(lies_in(table, part, other), expected)
                    self.same(told_within(table, part, other), expected)

    def test_great_tables(self):
        for table in ALL + LISTED:
            parts = some_parts(table)[:25]
            for part in parts:
                for other in parts[::2] + [part, turned_part(table, part, samples.spread(table, 1)[0])]:
                    got = lies_in(other=other, part=part, table=table)
                    self.same(got, told_within(table, part, other))
                    self.same(got, meet_of(table, part, other) == part)
                    self.same(got, join_of(table, part, other) == other)
                    self.same(lies_in(table, meet_of(table, part, other), part), True)
                    self.same(lies_in(table, other, join_of(table, part, other)), True)

    def test_the_least_and_the_greatest_part(self):
        for table in ALL:
            nought, whole = ((), ()), (table[0], ())
            for part in some_parts(table)[:30]:
                self.same([lies_in(table, part, part), lies_in(table, nought, part), lies_in(table, part, whole)],
                          [True, True, True])
                self.same([lies_in(table, part, nought), lies_in(table, whole, part)], [part == nought, part == whole])

    def test_one_spot_changed(self):
        table = samples.MIXED
        part, other = ((3,), ((7, 4),)), ((3, 11), ((7, 5),))
        self.same([lies_in(table, part, other), lies_in(table, part, ((3, 7, 11), ()))], [False, True])


class PartTurner(Case):
    def test_all_pairs_of_parts_of_small_tables(self):
        for table in samples.SMALL + samples.MIDDLE[:3]:
            told = Told(table)
            group = told.group
            for part, held in list(told.things.items())[::1 if len(told.things) < 40 else 5]:
                turned = {frozenset(group.turned(x, y) for x in held) for y in group.things}
                for other, late in told.things.items():
                    got = part_turner(table, part, other)
                    if late not in turned:
                        self.same(got, None)
                        continue
                    self.assertTrue(reference.is_thing(table, got))
                    self.assertEqual(frozenset(group.turned(x, got) for x in held), late)

    def test_great_tables(self):
        for table in ALL + LISTED:
            for k, part in enumerate(some_parts(table)[:40]):
                for x in samples.spread(table, 3, k):
                    other = turned_part(table, part, x)
                    got = part_turner(other=other, part=part, table=table)
                    self.assertTrue(reference.is_thing(table, got))
                    self.same(turned_part(table, part, got), other)
                    for y in samples.spread(table, 3, k + 1):
                        late = reference.times(table, got, put_into(table, part, y))
                        back = reference.times(table, put_into(table, other, y), got)
                        self.assertTrue(is_turned_into(table, other, got, late))
                        self.assertTrue(is_turned_into(table, part, got, back, True))

    def test_parts_with_other_primes(self):
        for table in ALL:
            parts = some_parts(table)[:30]
            for part, other in zip(parts, parts[1:] + parts[:1]):
                self.same(part_turner(table, part, other) is None, part[0] != other[0])

    def test_part_and_other_alike(self):
        for table in ALL:
            for part in some_parts(table)[:30]:
                got = part_turner(table, part, part)
                self.assertTrue(reference.is_thing(table, got))
                self.same(turned_part(table, part, got), part)


def is_turned_into(table, part, turner, product, late=False):
    """Whether a product is that of a thing of the part and the turner; behind the turner, if late."""
    for_back = reference.power(table, turner, reference.number(table) - 1)
    thing = reference.times(table, for_back, product) if late else reference.times(table, product, for_back)
    return reference.holds(table, part, thing)


class HowManyTurned(Case):
    def test_small_tables(self):
        for table in samples.SMALL + samples.MIDDLE[:5]:
            told = Told(table)
            group = told.group
            for part, held in list(told.things.items())[::1 if len(told.things) < 40 else 5]:
                turned = {frozenset(group.turned(x, y) for x in held) for y in group.things}
                self.same(how_many_turned(table, part), len(turned))

    def test_great_tables(self):
        for table in ALL + LISTED:
            for part in some_parts(table)[:40]:
                expected = 1
                for prime in reference.moved_outside(table, part[0]):
                    expected *= prime
                self.same(how_many_turned(part=part, table=table), expected)
                # As many as all things by those that keep it.
                kept = reference.number((kept_by(table, part)[0], ()))
                self.same(expected * kept, reference.number(table))


class GreatestParts(Case):
    def test_small_tables(self):
        for table in samples.SMALL + samples.MIDDLE:
            told = Told(table)
            less = [things for things in told.part if len(things) < len(told.group.things)]
            greatest = [things for things in less if not any(things < late for late in less)]
            self.same(greatest_parts(table), tuple(sorted(told.part[things] for things in greatest)))

    def test_by_consequence(self):
        for table in LISTED + samples.DOCUMENT + (samples.PAIRED,):
            got = greatest_parts(table=table)
            self.same(list(got), sorted(set(got)))
            moved = reference.moved_ones(table)
            self.same(len(got), sum(prime if prime in moved else 1 for prime in table[0]))
            for part in got[::len(got) // 60 + 1]:
                self.assertTrue(reference.is_part(table, part))
                self.same(len(part[0]), len(table[0]) - 1)

    def test_no_prime_and_one_prime(self):
        self.same(greatest_parts(samples.NONE), ())
        self.same(greatest_parts(((9973,), ())), (((), ()),))
        self.same(greatest_parts(((2,), ())), (((), ()),))

    def test_what_lies_in_no_greatest_part_makes_the_whole(self):
        for table in (samples.MIXED, samples.THREE, samples.PAIRED) + LISTED[:1]:
            greatest = greatest_parts(table)
            for k in range(20):
                things = tuple(samples.spread(table, 2, k))
                held = [part for part in greatest if all(reference.holds(table, part, x) for x in things)]
                self.same(not held, part_of(table, things) == (table[0], ()))


class ChainTo(Case):
    def test_chains(self):
        for table in ALL + LISTED:
            for part in some_parts(table)[:40]:
                chain = chain_to(part=part, table=table)
                self.assertIs(type(chain), tuple)
                self.same([chain[0], chain[-1]], [((), ()), part])
                self.same(len(chain), len(part[0]) + 1)
                for early, late in zip(chain, chain[1:]):
                    self.assertTrue(reference.is_part(table, early))
                    self.same(len(late[0]) - len(early[0]), 1)
                    self.assertTrue(told_within(table, early, late))
                    for x in samples.spread(table, 2):
                        self.assertTrue(reference.holds(table, late, put_into(table, early, x)))

    def test_all_things_of_chains_in_small_tables(self):
        for table in samples.SMALL + samples.MIDDLE[:3]:
            told = Told(table)
            for part in list(told.things)[::3]:
                sets = [told.things[step] for step in chain_to(table, part)]
                self.assertTrue(all(early < late for early, late in zip(sets, sets[1:])))

    def test_edges(self):
        self.same(chain_to(samples.NONE, ((), ())), (((), ()),))
        self.same(chain_to(((7,), ()), ((7,), ())), (((), ()), ((7,), ())))
        self.same(chain_to(samples.SIX, ((), ())), (((), ()),))


class WrongInputs(Case):
    def test_wrong_inputs(self):
        takes = {"table": wrong.table, "part": wrong.part, "other": wrong.part}
        args = {"table": samples.SIX, "part": ((2,), ((3, 1),)), "other": ((3,), ())}
        for call in (lies_in, part_turner):
            wrong.check_refusals(self, call, args, takes)
        for call in (how_many_turned, chain_to):
            wrong.check_refusals(self, call, {"table": samples.SIX, "part": ((2,), ((3, 1),))}, takes)
        wrong.check_refusals(self, greatest_parts, {"table": samples.SIX}, takes)


if __name__ == "__main__":
    unittest.main()
