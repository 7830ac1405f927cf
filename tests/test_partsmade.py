"""Parts made of things and of other parts ([34] [35])."""

import unittest

from tests import reference, samples, wrong
from tests.support import Case
from tests.test_parts import put_into, some_parts
from whoacts.errors import NotUsable
from whoacts.partsmade import join_of, meet_of, part_of, turned_part
from whoacts.exchanging import turned_by

ALL = samples.SMALL + samples.MIDDLE + samples.GREAT + samples.DOCUMENT


class Told:
    """All parts of a small table with their things, both ways."""

    def __init__(self, table):
        self.group = reference.group(table)
        self.things = {}
        for part in reference.told_parts(table):
            self.things[part] = frozenset(x for x in self.group.things if reference.holds(table, part, x))
        self.part = {things: part for part, things in self.things.items()}


class PartOf(Case):
    def test_parts_of_one_and_of_two_things_of_small_tables(self):
        for table in samples.SMALL + samples.MIDDLE[:4] + (samples.WIDE,):
            told = Told(table)
            things = told.group.things
            self.same(part_of(table, ()), told.part[told.group.closure(())])
            for k, x in enumerate(things):
                self.same(part_of(table, (x,)), told.part[told.group.closure((x,))])
                for y in things[k % 5::5] if len(things) <= 42 else things[k % 17::17]:
                    self.same(part_of(things=(x, y), table=table), told.part[told.group.closure((x, y))])

    def test_parts_of_all_things_of_each_part(self):
        for table in samples.SMALL + samples.MIDDLE[:4]:
            told = Told(table)
            for part, things in list(told.things.items())[::2]:
                self.same(part_of(table, tuple(sorted(things))), part)
                self.same(part_of(table, tuple(sorted(things, reverse=True)) * 2), part)

    def test_three_things(self):
        for table in samples.SMALL[::3]:
            told = Told(table)
            for k in range(len(told.group.things)):
                things = samples.spread(table, 3, k)
                self.same(part_of(table, tuple(things)), told.part[told.group.closure(things)])

    def test_great_tables(self):
        for table in ALL:
            for k in range(12):
                things = tuple(samples.spread(table, k % 4, k))
                got = part_of(table, things)
                self.assertTrue(reference.is_part(table, got), got)
                for thing in things:
                    self.assertTrue(reference.holds(table, got, thing))
                self.by_consequence(table, things, got)

    def by_consequence(self, table, things, got):
        """A prime that is no mover belongs to it exactly if there is no number c as in [35]."""
        movers = [p for k, p in enumerate(table[0]) if p in reference.movers(table) and any(x[k] for x in things)]
        self.assertEqual([p for p in got[0] if p in reference.movers(table)], movers)
        for k, prime in enumerate(table[0]):
            if prime in reference.movers(table):
                continue
            pairs = [(x[k], reference.factors(table, x)[k]) for x in things]
            spots = [c for c in range(prime) if all((c - f * c - rest) % prime == 0 for rest, f in pairs)]
            self.assertEqual(prime in got[0], not spots)
            if prime in dict(got[1]):
                self.assertEqual(spots, [dict(got[1])[prime]])

    def test_things_put_into_a_part_stay_within_it(self):
        for table in ALL:
            for part in some_parts(table)[:12]:
                things = tuple(put_into(table, part, x) for x in samples.spread(table, 4))
                got = part_of(table, things)
                self.assertLessEqual(set(got[0]), set(part[0]))
                self.same(join_of(table, got, part), part)

    def test_wrong_inputs(self):
        takes = {"table": wrong.table, "things": wrong.things}
        wrong.check_refusals(self, part_of, {"table": samples.SIX, "things": ((1, 1), (0, 2))}, takes)
        for value in ([(1, 1)], ((1, 1), None), (1, 1), ((1, 1), (2, 0)), [], None, ((1, 1), [1, 1])):
            self.raises(NotUsable, {"word": "things", "at": -1}, part_of, samples.SIX, value)


class MeetAndJoin(Case):
    def test_all_pairs_of_parts_of_small_tables(self):
        for table in samples.SMALL + samples.MIDDLE[:5]:
            told = Told(table)
            parts = list(told.things)
            for part in parts[::1 if len(parts) < 40 else 3]:
                for other in parts:
                    both = told.things[part] & told.things[other]
                    self.same(meet_of(table, part, other), told.part[both])
                    self.same(join_of(table, part, other), joined(told, part, other))

    def test_great_tables(self):
        for table in ALL:
            parts = some_parts(table)[:25]
            for part in parts:
                for other in parts[::2] + [part]:
                    meet = meet_of(other=other, part=part, table=table)
                    join = join_of(other=other, part=part, table=table)
                    self.assertTrue(reference.is_part(table, meet))
                    self.assertTrue(reference.is_part(table, join))
                    self.same((meet_of(table, other, part), join_of(table, other, part)), (meet, join))
                    self.primes_by_consequence(table, part, other, meet, join)
                    for x in samples.spread(table, 2):
                        y = put_into(table, meet, x)
                        self.assertTrue(reference.holds(table, part, y) and reference.holds(table, other, y))
                        for late in (put_into(table, part, x), put_into(table, other, x)):
                            self.assertTrue(reference.holds(table, join, late))

    def primes_by_consequence(self, table, part, other, meet, join):
        movers = reference.movers(table)
        spots, late = dict(part[1]), dict(other[1])
        apart = {q for q in spots if q in late and spots[q] != late[q]}
        for prime in table[0]:
            both = prime in part[0] and prime in other[0]
            if prime in movers:
                moved = {q for p, q in reference.web(table) if p == prime}
                self.assertEqual(prime in meet[0], both and not moved & apart)
                self.assertEqual(prime in join[0], prime in part[0] or prime in other[0])
            else:
                self.assertEqual(prime in meet[0], both)
                self.assertEqual(prime in join[0], prime in part[0] or prime in other[0] or prime in apart)

    def test_with_itself_nought_and_all(self):
        for table in ALL:
            nought, whole = ((), ()), (table[0], ())
            for part in some_parts(table)[:30]:
                self.same([meet_of(table, part, part), join_of(table, part, part)], [part, part])
                self.same([meet_of(table, part, nought), join_of(table, part, nought)], [nought, part])
                self.same([meet_of(table, part, whole), join_of(table, part, whole)], [part, whole])

    def test_wrong_inputs(self):
        takes = {"table": wrong.table, "part": wrong.part, "other": wrong.part}
        args = {"table": samples.SIX, "part": ((2,), ((3, 1),)), "other": ((3,), ())}
        for call in (meet_of, join_of):
            wrong.check_refusals(self, call, args, takes)


def joined(told, part, other):
    """The least of all parts that hold the things of both."""
    both = told.things[part] | told.things[other]
    return told.part[min((things for things in told.part if both <= things), key=len)]


class TurnedPart(Case):
    def test_small_tables(self):
        for table in samples.SMALL + samples.MIDDLE[:3]:
            told = Told(table)
            things = told.group.things
            for k, (part, held) in enumerate(told.things.items()):
                for x in things[::1 if len(things) <= 30 else 3][k % 2::2]:
                    turned = frozenset(told.group.turned(y, x) for y in held)
                    self.same(turned_part(table, part, x), told.part[turned])

    def test_great_tables(self):
        for table in ALL:
            for part in some_parts(table)[:20]:
                for x in samples.spread(table, 5):
                    got = turned_part(thing=x, part=part, table=table)
                    self.assertTrue(reference.is_part(table, got))
                    self.same(got[0], part[0])
                    for y in samples.spread(table, 3, 5):
                        late = turned_by(table, put_into(table, part, y), x)
                        self.assertTrue(reference.holds(table, got, late))

    def test_wrong_inputs(self):
        takes = {"table": wrong.table, "part": wrong.part, "thing": wrong.thing}
        args = {"table": samples.SIX, "part": ((2,), ((3, 1),)), "thing": (1, 0)}
        wrong.check_refusals(self, turned_part, args, takes)


if __name__ == "__main__":
    unittest.main()
