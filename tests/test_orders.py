"""Things counted by order ([31], (S2))."""

import unittest
from collections import Counter

from tests import reference, samples, wrong
from tests.support import Case
from whoacts.orders import orders_of, things_of_order

ALL = samples.SMALL + samples.MIDDLE + samples.GREAT + samples.DOCUMENT


class Orders(Case):
    def test_small_tables(self):
        for table in samples.SMALL + samples.MIDDLE + (samples.TWO, samples.TWIN):
            group = reference.group(table)
            orders = Counter(group.order(x) for x in group.things)
            expected = []
            for primes in reference.subsets(table[0]):
                count = orders[reference.number((primes, ()))]
                self.same(things_of_order(table, primes), count)
                self.same(things_of_order(primes=primes, table=table), count)
                if count:
                    expected.append((primes, count))
            self.same(orders_of(table), tuple(expected))
            self.same(orders_of(table=table), tuple(expected))

    def test_two_and_three_movers_on_one_prime(self):
        for table in (samples.MIXED, samples.THREE):
            orders = Counter(order_by_powers(table, x) for x in reference.all_things(table))
            for primes in reference.subsets(table[0]):
                self.same(things_of_order(table, primes), orders[reference.number((primes, ()))])

    def test_great_tables(self):
        for table in ALL:
            orders = orders_of(table)
            self.same(sum(count for _, count in orders), reference.number(table))
            self.same(list(orders), sorted(set(orders)))
            self.same(orders[0], ((), 1))
            told = dict(orders)
            for primes in reference.subsets(table[0]):
                self.same(things_of_order(table, primes), told.get(primes, 0))
                product = reference.number((primes, ()))
                # As many things of one order as elements of order that many make whole cycles of them.
                cycles = 1
                for prime in primes:
                    cycles *= prime - 1
                self.assertEqual(told.get(primes, 0) % cycles, 0, (table, primes, product))

    def test_still_primes_alone(self):
        table = samples.GREAT[4]
        for primes in reference.subsets(table[0]):
            count = 1
            for prime in primes:
                count *= prime - 1
            self.same(things_of_order(table, primes), count)

    def test_tables_with_one_web_have_the_same_orders(self):
        self.same(orders_of(samples.TWO), orders_of(samples.TWIN))
        self.same(orders_of(samples.NONE), (((), 1),))
        self.same(orders_of(((7,), ())), (((), 1), ((7,), 6)))

    def test_wrong_inputs(self):
        takes = {"table": wrong.table, "primes": wrong.primes}
        wrong.check_refusals(self, things_of_order, {"table": samples.MIXED, "primes": (2, 7)}, takes)
        wrong.check_refusals(self, orders_of, {"table": samples.MIXED}, {"table": wrong.table})


def order_by_powers(table, x):
    """The least product of primes of the table with nought as the power."""
    order = reference.number(table)
    for prime in table[0]:
        total = reference.nought(table)
        for _ in range(order // prime):
            total = reference.times(table, total, x)
        if total == reference.nought(table):
            order //= prime
    return order


if __name__ == "__main__":
    unittest.main()
