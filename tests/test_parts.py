"""Parts as they are told ([5] [32] [33], (S1))."""

import unittest

from tests import reference, samples, wrong
from tests.support import Case
from whoacts.parts import holds, is_part, size_of, things_of
from whoacts.partsmade import join_of, meet_of
from whoacts.things import back_of, product_of

ALL = samples.SMALL + samples.MIDDLE + samples.GREAT + samples.DOCUMENT


def some_parts(table):
    """All parts of a small table, some of any other one, that of nought and that of all things among them."""
    if reference.number(table) <= 110:
        return reference.told_parts(table)
    return samples.spread_parts(table, 25) + [((), ()), (table[0], ())]


class IsPart(Case):
    def test_parts(self):
        for table in ALL:
            for part in some_parts(table):
                self.same(is_part(table, part), True)
                self.same(is_part(value=part, table=table), True)
                primes, spots = part
                others = [list(part), (list(primes), spots), (primes, list(spots)), (primes,), part + ((),), (spots, primes),
                          (primes[::-1], spots), (primes, spots[::-1]), (primes, spots[:-1]), (primes, spots * 2),
                          (primes[:-1], spots), (primes[1:], spots), (primes + (13,), spots), primes, spots,
                          (primes, tuple(list(spot) for spot in spots)), (primes, spots + ((13, 0),))]
                for k, (prime, spot) in enumerate(spots):
                    for late in (-1, prime, prime + 1, True, False, None, "0", (0,), 10**89, spot - prime):
                        others.append((primes, spots[:k] + ((prime, late),) + spots[k + 1:]))
                    for late in (prime + 1, 2, True, None, str(prime), (prime,), [prime]):
                        others.append((primes, spots[:k] + ((late, spot),) + spots[k + 1:]))
                    others.append((primes, spots[:k] + ((prime, spot, 0),) + spots[k + 1:]))
                    others.append((primes, spots[:k] + (prime, spot) + spots[k + 1:]))
                for value in others:
                    self.same(is_part(table, value), reference.is_part(table, value), value)

    def test_the_greatest_spots(self):
        self.same([is_part(samples.SIX, ((2,), ((3, spot),))) for spot in (-1, 0, 1, 2, 3)],
                  [False, True, True, True, False])

    def test_each_change_of_a_part(self):
        for table, part in ((samples.MIXED, ((2, 11), ((5, 3), (7, 4)))), (samples.SIX, ((2,), ((3, 1),)))):
            for value in wrong.changed(part):
                self.same(is_part(table, value), reference.is_part(table, value), value)

    def test_any_value(self):
        for table in samples.DOCUMENT:
            for value in wrong.any_values():
                before = repr(value)
                self.same(is_part(table, value), reference.is_part(table, value), value)
                self.assertEqual(repr(value), before)

    def test_wrong_inputs(self):
        takes = {"table": wrong.table, "value": wrong.judged}
        wrong.check_refusals(self, is_part, {"table": samples.SIX, "value": ((), ())}, takes)


class Parts(Case):
    def test_each_part_is_told_by_just_one_pair(self):
        for table in samples.SMALL + samples.MIDDLE:
            group = reference.group(table)
            told = [frozenset(things_of(table, part)) for part in reference.told_parts(table)]
            self.assertEqual(len(told), len(set(told)))
            self.assertEqual(set(told), set(group.parts))

    def test_things_of_small_tables(self):
        for table in samples.SMALL + samples.MIDDLE:
            things = reference.all_things(table)
            parts = some_parts(table)
            for part in parts[::1 if len(things) <= 42 else 3]:
                expected = tuple(x for x in things if reference.holds(table, part, x))
                self.same(things_of(table, part), expected)
                self.same(things_of(part=part, table=table), expected)
                self.same(size_of(table, part), len(expected))
                for x in things:
                    self.same(holds(table, part, x), x in expected)

    def test_parts_of_one_class_are_those_with_the_same_primes(self):
        for table in samples.SMALL + samples.MIDDLE[:3]:
            group = reference.group(table)
            for part in reference.told_parts(table)[::3]:
                held = things_of(table, part)
                turned = {frozenset(group.turned(y, x) for y in held) for x in group.things}
                alike = {frozenset(things_of(table, late)) for late in reference.told_parts(table) if late[0] == part[0]}
                self.assertEqual(turned, alike)

    def test_size(self):
        for table in ALL:
            number = reference.number(table)
            for part in some_parts(table):
                self.same(size_of(part=part, table=table), reference.number((part[0], ())))
                self.assertEqual(number % size_of(table, part), 0)

    def test_things_held_by_parts_of_great_tables(self):
        for table in ALL:
            for part in some_parts(table)[:25]:
                for x in samples.spread(table, 6):
                    self.same(holds(thing=x, part=part, table=table), reference.holds(table, part, x))
                    y = put_into(table, part, x)
                    self.same(holds(table, part, y), True)
                    for k, prime in enumerate(table[0]):
                        late = y[:k] + ((y[k] + 1) % prime,) + y[k + 1:]
                        self.same(holds(table, part, late), reference.holds(table, part, late))

    def test_a_part_has_nought_and_products_and_backs(self):
        for table in ALL:
            for part in some_parts(table)[:25]:
                self.same(holds(table, part, reference.nought(table)), True)
                things = [put_into(table, part, x) for x in samples.spread(table, 4)]
                for x in things:
                    self.same(holds(table, part, back_of(table, x)), True)
                    for y in things:
                        self.same(holds(table, part, product_of(table, x, y)), True)

    def test_listed_things_of_parts_of_great_tables(self):
        table = samples.GREAT[0]
        part = ((2, 3, 5), tuple((prime, prime - 9000) for prime in (9931, 9941, 9949, 9967, 9973)))
        found = things_of(table, part)
        self.same(len(found), 30)
        self.same(list(found), sorted(set(found)))
        self.assertTrue(all(reference.holds(table, part, x) for x in found))
        self.same(things_of(samples.GREAT[4], ((), ())), ((0,) * 8,))
        self.same(len(things_of(samples.THREE, ((2, 3, 5, 31), ()))), 930)

    def test_edges(self):
        for table in ALL:
            nought = reference.nought(table)
            self.same([size_of(table, ((), ())), things_of(table, ((), ()))], [1, (nought,)])
            self.same(size_of(table, (table[0], ())), reference.number(table))
            for x in samples.spread(table, 5):
                self.same(holds(table, (table[0], ()), x), True)
                self.same(holds(table, ((), ()), x), x == nought)
        self.same(things_of(samples.NONE, ((), ())), ((),))

    def test_each_divisor_is_told_by_some_part(self):
        for table in ALL:
            for primes in reference.subsets(table[0])[::5]:
                spots = tuple((prime, 0) for prime in reference.moved_outside(table, primes))
                self.same(is_part(table, (primes, spots)), True)

    def test_tables_with_one_web_have_the_same_parts(self):
        tables = (samples.TWO, samples.TWIN, ((3, 7, 13), ((3, ((7, 4), (13, 9))),)))
        parts = reference.told_parts(samples.TWO)[::9]
        for table in tables:
            for part in parts:
                self.same(is_part(table, part), True)
                for other in parts:
                    self.same(meet_of(table, part, other), meet_of(samples.TWO, part, other))
                    self.same(join_of(table, part, other), join_of(samples.TWO, part, other))

    def test_great_tables_with_one_web_have_the_same_parts(self):
        table = samples.GREAT[1]
        other = samples.great_table(table[0], reference.web(table), 2)
        self.assertNotEqual(table, other)
        parts = some_parts(table)
        for part in parts:
            self.same(is_part(other, part), True)
            for late in parts[::3]:
                self.same(meet_of(other, part, late), meet_of(table, part, late))
                self.same(join_of(other, part, late), join_of(table, part, late))

    def test_wrong_inputs(self):
        takes = {"table": wrong.table, "part": wrong.part, "thing": wrong.thing}
        args = {"table": samples.SIX, "part": ((2,), ((3, 1),)), "thing": (1, 2)}
        wrong.check_refusals(self, holds, args, takes)
        for call in (size_of, things_of):
            wrong.check_refusals(self, call, {"table": samples.SIX, "part": ((2,), ((3, 1),))}, takes)


def put_into(table, part, x):
    """A thing of the part with the rests of x at its primes."""
    primes, spots = part[0], dict(part[1])
    y = tuple(rest if prime in primes else 0 for prime, rest in zip(table[0], x))
    found = []
    for prime, rest in zip(table[0], y):
        spot = spots.get(prime, 0)
        found.append(rest if prime in primes else (spot - reference.factor(table, y, prime) * spot) % prime)
    return tuple(found)


if __name__ == "__main__":
    unittest.main()
