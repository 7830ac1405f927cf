"""Pairs counted by their exchanger, and twisted counts ([49] [50])."""

import unittest
from math import gcd

from tests import reference, samples, wrong
from tests.support import Case
from tests.test_classes import patterned
from whoacts.classcounts import classes_of, exchanged_pairs
from whoacts.classes import in_one_class
from whoacts.things import power_of
from whoacts.twisting import exchanger_pairs, twisted_count

SMALL = samples.SMALL + samples.MIDDLE + (samples.TWO, samples.TWIN)
ALL = SMALL + samples.GREAT + (samples.MIXED, samples.NONE, samples.THREE, samples.PAIRED, samples.PARTED)
LONG = 10**89 + 12345678901234567890


def with_rests(primes, rests):
    """The number less than the product of the primes with these rests, a dict, and 0 at the others."""
    number = reference.number((primes, ()))
    total = 0
    for prime, rest in rests.items():
        rest_of_all = number // prime
        total += rest * rest_of_all * pow(rest_of_all, -1, prime)
    return total % number


def twists(table):
    """Numbers r that leave roots of movers, their powers, their products, 0, 1 and others at some primes."""
    primes = table[0]
    found = [0, 1, 2, 3, 4, 10**40 + 9, LONG]
    steps = [(mover, q, root) for mover, row in table[1] for q, root in row]
    for mover, q, root in steps:
        found.append(with_rests(primes, {q: root}))
        found.append(with_rests(primes, {prime: root if prime == q else 1 for prime in primes}))
        for _, late, other in steps:
            if late != q:
                found.append(with_rests(primes, {q: root, late: other}))
                found.append(with_rests(primes, {prime: {q: root, late: other}.get(prime, 1) for prime in primes}))
    roots = {q: root for _, q, root in steps}
    found.append(with_rests(primes, {prime: roots.get(prime, 1) for prime in primes}))
    found.append(with_rests(primes, {prime: roots.get(prime, 1) * (prime - 1) % prime for prime in primes}))
    found.append(with_rests(primes, {prime: pow(roots.get(prime, 1), 2, prime) for prime in primes}))
    return found[:60]


class Exchangers(Case):
    def test_by_going_through_all_pairs(self):
        for table in SMALL + (samples.PAIRED,):
            count = reference.group(table).exchangers
            for x in list(count)[::1 if len(count) < 300 else 3]:
                self.same(exchanger_pairs(table, x), count[x])

    def test_great_tables(self):
        for table in ALL:
            number = reference.number(table)
            moved = reference.moved_ones(table)
            total = 0
            for primes in reference.subsets(table[0]):
                x = tuple(prime - 1 if prime in primes else 0 for prime in table[0])
                got = exchanger_pairs(thing=x, table=table)
                self.same(got > 0, set(primes) <= set(moved))
                same = 1
                for prime in primes:
                    same *= prime - 1
                total += got * same
            self.same(total, number * number)
            self.same(exchanger_pairs(table, reference.nought(table)), exchanged_pairs(table))

    def test_which_rests_are_0_alone_counts(self):
        for table in ALL:
            for x, y in zip(patterned(table), patterned(table, 2)):
                self.same(exchanger_pairs(table, x), exchanger_pairs(table, y))
                self.same(exchanger_pairs(samples.other_roots(table), x), exchanger_pairs(table, x))

    def test_edges(self):
        self.same(exchanger_pairs(samples.NONE, ()), 1)
        self.same([exchanger_pairs(((7,), ()), (rest,)) for rest in range(7)], [49] + [0] * 6)
        table = samples.GREAT[4]
        self.same(exchanger_pairs(table, (0,) * 8), reference.number(table) ** 2)
        self.same(exchanger_pairs(table, (0,) * 7 + (1,)), 0)


class Twisted(Case):
    def test_each_r_by_going_through_all_pairs(self):
        for table in SMALL:
            number = reference.number(table)
            ends = number + 7 if number < 300 else 60
            counts = reference.group(table).twisted(ends)
            for r in range(0, ends, 1 if number <= 110 else 2):
                self.same(twisted_count(table, r), counts[r])

    def test_roots_with_two_movers_of_two_primes(self):
        for table in (samples.PAIRED, samples.PARTED):
            counts = reference.group(table).twisted(546)
            for r in list(range(0, 546, 5)) + [r for r in twists(table) if r < 546]:
                self.same(twisted_count(table, r), counts[r])

    def test_beyond_n(self):
        for table in ALL:
            number = reference.number(table)
            for r in twists(table)[:20]:
                expected = twisted_count(r=r, table=table)
                self.same(twisted_count(table, r % number), expected)
                self.same(twisted_count(table, r + number), expected)
                late = r + number * (10**89 // number // 2)
                self.same(twisted_count(table, late), expected)
            self.same(twisted_count(table, number), number)
            self.same(twisted_count(table, number + 1), exchanged_pairs(table))

    def test_classes_that_the_power_leads_into_themselves(self):
        for table in ALL:
            number = reference.number(table)
            rows = classes_of(table)
            things = {primes: tuple((prime * 7 + 1) % prime if prime in primes else 0 for prime in table[0])
                      for primes, _, _ in rows}
            for r in twists(table)[:12 if len(table[0]) > 5 else 40]:
                kept = sum(count for primes, _, count in rows
                           if in_one_class(table, things[primes], power_of(table, things[primes], r % number)))
                self.same(twisted_count(table, r), number * kept)

    def test_none_and_one(self):
        for table in ALL:
            self.same([twisted_count(table, 0), twisted_count(table, 1)],
                      [reference.number(table), exchanged_pairs(table)])

    def test_still_primes_alone(self):
        # There y is y^r exactly if its order divides r less 1.
        for table in (samples.GREAT[4], ((2, 3, 5, 7), ()), ((7,), ()), samples.NONE):
            number = reference.number(table)
            for r in (0, 1, 2, 3, 7, 8, 9907, 9902, 9901 * 9907 + 1, LONG):
                self.same(twisted_count(table, r), number * gcd(r - 1, number))

    def test_great_primes_by_roots_up_to_a_power(self):
        table = samples.GREAT[1]
        other = samples.other_roots(table)
        number = reference.number(table)
        roots, late = dict(table[1][0][1]), dict(other[1][0][1])
        for q in (9949, 9967, 9973):
            r = with_rests(table[0], {9931: 0, q: roots[q]})
            self.assertGreater(twisted_count(table, r), number)
            self.same(twisted_count(other, r), twisted_count(table, r))
            both = with_rests(table[0], {9931: roots[9931], q: roots[q]})
            up = [k for k in (1, 2) if pow(late[9931], k, 9931) == roots[9931] and pow(late[q], k, q) == roots[q]]
            self.same(twisted_count(other, both) == twisted_count(table, both), bool(up))


class WrongInputs(Case):
    def test_wrong_inputs(self):
        takes = {"table": wrong.table, "thing": wrong.thing, "r": wrong.number}
        wrong.check_refusals(self, exchanger_pairs, {"table": samples.SIX, "thing": (0, 1)}, takes)
        wrong.check_refusals(self, twisted_count, {"table": samples.SIX, "r": 2}, takes)


if __name__ == "__main__":
    unittest.main()
