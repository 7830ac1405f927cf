"""Turned things, and which can be exchanged ([4] [26] [27])."""

import unittest

from tests import reference, samples, wrong
from tests.support import Case
from whoacts.exchanging import are_exchanged, exchanger_of, turned_by
from whoacts.things import order_of

ALL = samples.SMALL + samples.MIDDLE + samples.GREAT + samples.DOCUMENT


def some_pairs(table):
    things = samples.spread(table, 7) + [reference.nought(table), (1,) * len(table[0])]
    return [(x, y) for x in things for y in things]


class Exchanging(Case):
    def test_all_pairs_of_small_tables(self):
        for table in samples.SMALL + samples.MIDDLE[:3]:
            group = reference.group(table)
            for x in group.things[::1 if len(group.things) <= 42 else 4]:
                for y in group.things:
                    turned = group.turned(x, y)
                    self.same(turned_by(table, x, y), turned)
                    self.same(are_exchanged(table, x, y), group.product(x, y) == group.product(y, x))
                    self.same(exchanger_of(table, x, y), group.product(group.turned(y, x), group.back(y)))

    def test_great_tables(self):
        for table in ALL:
            for x, y in some_pairs(table):
                turned = turned_by(other=y, thing=x, table=table)
                self.assertTrue(reference.is_thing(table, turned))
                # The definition, times other from the right.
                self.same(reference.times(table, turned, y), reference.times(table, y, x))
                both = reference.times(table, x, y), reference.times(table, y, x)
                self.same(are_exchanged(other=y, thing=x, table=table), both[0] == both[1])
                exchanger = exchanger_of(other=y, thing=x, table=table)
                self.assertTrue(reference.is_thing(table, exchanger))
                self.same(reference.times(table, exchanger, both[1]), both[0])

    def test_nought_exactly_if_they_can_be_exchanged(self):
        for table in ALL:
            for x, y in some_pairs(table):
                self.same(exchanger_of(table, x, y) == reference.nought(table), are_exchanged(table, x, y))

    def test_turned_things_have_the_order_of_the_thing(self):
        for table in ALL:
            for x, y in some_pairs(table):
                self.same(order_of(table, turned_by(table, x, y)), order_of(table, x))

    def test_an_exchanger_has_the_rest_0_at_all_primes_that_are_not_moved(self):
        for table in ALL:
            for x, y in some_pairs(table):
                for prime, rest in zip(table[0], exchanger_of(table, x, y)):
                    self.assertTrue(rest == 0 or prime in reference.moved_ones(table))

    def test_exchanged_exactly_if_at_each_moved_prime_both_sides_are_the_same(self):
        for table in ALL:
            for x, y in some_pairs(table):
                rows = zip(table[0], x, y, reference.factors(table, x), reference.factors(table, y))
                told = all((a * (1 - g) - b * (1 - f)) % prime == 0 for prime, a, b, f, g in rows
                           if prime in reference.moved_ones(table))
                self.same(are_exchanged(table, x, y), told)

    def test_still_things_can_be_exchanged_with_all(self):
        for x in reference.all_things(samples.MIXED)[::37]:
            self.same(are_exchanged(samples.MIXED, (0, 0, 0, 0, 5), x), True)
            self.same(turned_by(samples.MIXED, (0, 0, 0, 0, 5), x), (0, 0, 0, 0, 5))

    def test_wrong_inputs(self):
        for call in (turned_by, are_exchanged, exchanger_of):
            takes = {"table": wrong.table, "thing": wrong.thing, "other": wrong.thing}
            wrong.check_refusals(self, call, {"table": samples.SIX, "thing": (1, 1), "other": (0, 2)}, takes)


if __name__ == "__main__":
    unittest.main()
