"""Powers told back ([28] [29] [30])."""

import unittest
from collections import Counter
from math import gcd

from tests import reference, samples, wrong
from tests.support import Case
from whoacts.errors import NotUsable
from whoacts.orders import orders_of
from whoacts.rooting import any_root, nought_roots, root_count
from whoacts.things import power_of

ALL = samples.SMALL + samples.MIDDLE + samples.GREAT + samples.DOCUMENT
LONG = 10**39 + 7


def exponents(table):
    """Numbers with each set of primes of the table, and other primes, some of forty digits."""
    found = [1, 4, 13 * 17, LONG]
    for primes in reference.subsets(table[0])[:80]:
        total = 1
        for prime in primes:
            total *= prime
        found.extend([total, total * total, total * 19 * 10**6] if len(primes) < 3 else [total])
    return sorted(set(found))


class Rooting(Case):
    def test_all_powers_of_all_things(self):
        for table in samples.SMALL + samples.MIDDLE + (samples.TWO,):
            group = reference.group(table)
            for k in range(1, len(group.things) + 2) if len(group.things) <= 42 else (1, 2, 3, 5, 6, 7, 11, 21, 30, 105):
                self.roots_by_trying(table, k, group.things)

    def roots_by_trying(self, table, k, things):
        """things are all things of the table."""
        powers = Counter(by_steps(table, x, k) for x in things)
        for x in things[::1 if len(things) <= 42 else 3]:
            self.same(root_count(table, x, k), powers[x])
            root = any_root(table, x, k)
            if powers[x] == 0:
                self.same(root, None)
            else:
                self.assertTrue(reference.is_thing(table, root))
                self.same(by_steps(table, root, k), x)
        self.same(nought_roots(table, k), powers[reference.nought(table)])

    def test_two_and_three_movers_on_one_prime(self):
        for table in (samples.MIXED, samples.THREE):
            things = reference.all_things(table)
            for k in (2, 3, 5, 6, 10, 30):
                powers = Counter(power_of(table, x, k) for x in things)
                for x in things[::5]:
                    self.same(root_count(table, x, k), powers[x])
                    self.same(any_root(table, x, k) is None, powers[x] == 0)
                self.same(nought_roots(table, k), powers[reference.nought(table)])

    def test_roots_of_powers(self):
        for table in ALL:
            for x in samples.spread(table, 10) + [reference.nought(table)]:
                for k in exponents(table)[::3]:
                    power = power_of(table, x, k)
                    self.assertGreater(root_count(thing=power, k=k, table=table), 0)
                    root = any_root(k=k, thing=power, table=table)
                    self.assertTrue(reference.is_thing(table, root))
                    self.same(power_of(table, root, k), power)

    def test_none_where_there_is_no_root(self):
        for table in ALL:
            for x in samples.spread(table, 10, 3):
                for k in exponents(table)[::4]:
                    root = any_root(table, x, k)
                    self.same(root is None, root_count(table, x, k) == 0)
                    if root is not None:
                        self.same(power_of(table, root, k), x)

    def test_just_one_root_if_k_has_no_prime_of_the_table(self):
        for table in ALL:
            number = reference.number(table)
            for k in (1, 19, 23 * 29, 10**39 + 7, 37**20):
                if gcd(k, number) == 1:
                    for x in samples.spread(table, 6):
                        self.same(root_count(table, x, k), 1)
                        self.same(power_of(table, any_root(table, x, k), k), x)

    def test_nought_roots_are_the_things_whose_order_divides_k(self):
        for table in ALL:
            orders = orders_of(table)
            for k in exponents(table):
                count = sum(many for primes, many in orders if all(k % prime == 0 for prime in primes))
                self.same(nought_roots(table, k), count)
                self.same(nought_roots(k=k, table=table), count)

    def test_nought_roots_hang_on_the_primes_of_k_alone_and_are_a_multiple(self):
        for table in ALL:
            for k in exponents(table):
                primes = [prime for prime in table[0] if k % prime == 0]
                product = 1
                for prime in primes:
                    product *= prime
                self.same(nought_roots(table, k), nought_roots(table, product))
                self.assertEqual(nought_roots(table, k) % product, 0)
                self.same(root_count(table, reference.nought(table), k), nought_roots(table, k))

    def test_wrong_inputs(self):
        takes = {"table": wrong.table, "thing": wrong.thing, "k": wrong.positive}
        for call in (root_count, any_root):
            wrong.check_refusals(self, call, {"table": samples.SIX, "thing": (1, 1), "k": 3}, takes)
            for k in (0, -1, -LONG, True, None):
                self.raises(NotUsable, {"word": "k", "at": -1}, call, samples.SIX, (1, 1), k)
        wrong.check_refusals(self, nought_roots, {"table": samples.SIX, "k": 3}, takes)


def by_steps(table, x, k):
    """A power as the product of things like it, one by one."""
    total = reference.nought(table)
    for _ in range(k):
        total = reference.times(table, total, x)
    return total


if __name__ == "__main__":
    unittest.main()
