"""Whole parts, and what lies around a part ([5] [36] [38], (S1))."""

import unittest

from tests import reference, samples, wrong
from tests.support import Case
from tests.test_parts import put_into, some_parts
from tests.test_partsmade import Told
from whoacts.exchanging import are_exchanged
from whoacts.partsmade import join_of, turned_part
from whoacts.wholeparts import core_of, hull_of, is_whole, kept_by, still_for

ALL = samples.SMALL + samples.MIDDLE + samples.GREAT + samples.DOCUMENT
CALLS = (is_whole, core_of, hull_of, kept_by, still_for)


class ByDefinition(Case):
    def test_small_tables(self):
        for table in samples.SMALL + samples.MIDDLE[:5]:
            told = Told(table)
            group = told.group
            whole = {part: all(group.turned(x, y) in things for x in things for y in group.things)
                     for part, things in told.things.items()}
            for part, things in list(told.things.items())[::1 if len(told.things) < 40 else 3]:
                self.same(is_whole(table, part), whole[part])
                within = [late for late in told.things if whole[late] and told.things[late] <= things]
                around = [late for late in told.things if whole[late] and told.things[late] >= things]
                self.same(core_of(table, part), max(within, key=lambda late: len(told.things[late])))
                self.same(hull_of(table, part), min(around, key=lambda late: len(told.things[late])))
                kept = frozenset(x for x in group.things if all(group.turned(y, x) in things for y in things))
                self.same(kept_by(table, part), told.part[kept])
                still = frozenset(x for x in group.things
                                  if all(group.product(x, y) == group.product(y, x) for y in things))
                self.same(still_for(table, part), told.part[still])

    def test_by_name(self):
        part = ((3, 5, 11), ((7, 4),))
        for call in CALLS:
            self.same(call(part=part, table=samples.MIXED), call(samples.MIXED, part))


class ByConsequence(Case):
    def test_whole_are_exactly_those_without_spots(self):
        for table in ALL:
            for part in some_parts(table)[:60]:
                self.same(is_whole(table, part), part[1] == ())
                turned = [turned_part(table, part, x) for x in samples.spread(table, 12)]
                if part[1] == ():
                    self.same(turned, [part] * len(turned))

    def test_core_and_hull(self):
        for table in ALL:
            web = reference.web(table)
            for part in some_parts(table)[:60]:
                core = tuple(p for p in part[0] if all(q in part[0] for mover, q in web if mover == p))
                hull = set(part[0]) | {q for mover, q in web if mover in part[0]}
                self.same(core_of(table, part), (core, ()))
                self.same(hull_of(table, part), (tuple(sorted(hull)), ()))
                self.same(join_of(table, part, core_of(table, part)), part)
                self.same(join_of(table, part, hull_of(table, part)), hull_of(table, part))

    def test_what_keeps_a_part(self):
        for table in ALL:
            for part in some_parts(table)[:40]:
                kept = kept_by(table, part)
                spots = dict(part[1])
                self.same(kept, (tuple(p for p in table[0] if p not in spots), part[1]))
                self.assertTrue(reference.is_part(table, kept))
                for x in samples.spread(table, 5):
                    self.same(turned_part(table, part, x) == part, reference.holds(table, kept, x))
                    self.same(turned_part(table, part, put_into(table, kept, x)), part)

    def test_what_is_still_for_a_part(self):
        for table in ALL:
            web, movers = reference.web(table), reference.movers(table)
            for part in some_parts(table)[:40]:
                still = still_for(table, part)
                primes, spots = part[0], dict(part[1])
                expected = []
                for p in table[0]:
                    if p in movers:
                        has = not any(mover == p and q in primes for mover, q in web)
                    elif p in primes:
                        has = not any(q == p and mover in primes for mover, q in web)
                    else:
                        has = p not in spots
                    expected += [p] * has
                self.same(still[0], tuple(expected))
                self.assertTrue(reference.is_part(table, still))
                self.assertLessEqual(set(still[1]), set(part[1]))
                for x in samples.spread(table, 4):
                    for y in samples.spread(table, 4, 9):
                        one, late = put_into(table, still, x), put_into(table, part, y)
                        self.same(are_exchanged(table, one, late), True)

    def test_still_for_all_things_is_the_centre(self):
        for table in ALL:
            busy = {prime for pair in reference.web(table) for prime in pair}
            still = tuple(p for p in table[0] if p not in busy)
            self.same(still_for(table, (table[0], ())), (still, ()))
            self.same(still_for(table, ((), ())), (table[0], ()))
            self.same(kept_by(table, ((), ())), (table[0], ()))
            self.same([core_of(table, ((), ())), hull_of(table, ((), ()))], [((), ()), ((), ())])
            self.same([core_of(table, (table[0], ())), hull_of(table, (table[0], ()))], [(table[0], ())] * 2)

    def test_wrong_inputs(self):
        takes = {"table": wrong.table, "part": wrong.part}
        for call in CALLS:
            wrong.check_refusals(self, call, {"table": samples.SIX, "part": ((2,), ((3, 1),))}, takes)


if __name__ == "__main__":
    unittest.main()
