"""Classes counted ([45] [46] [47], (W1) (S3) (S5))."""

import unittest
from collections import Counter
from fractions import Fraction
from math import gcd

from tests import reference, samples, wrong
from tests.support import Case
from tests.test_classes import patterned
from whoacts.classcounts import centre_primes, chance_of, class_count, classes_of, exchanged_pairs
from whoacts.classes import class_form, class_size
from whoacts.exchangerows import exchanged_rows
from whoacts.orders import orders_of
from whoacts.tablechanges import joined, with_prime
from whoacts.wholeparts import still_for

SMALL = samples.SMALL + samples.MIDDLE + (samples.TWO, samples.TWIN, samples.PAIRED)
ALL = SMALL + samples.GREAT + (samples.MIXED, samples.NONE, samples.THREE, samples.PARTED)
CALLS = (class_count, classes_of, exchanged_pairs, chance_of, centre_primes)


def primes_of_order(table, order):
    return tuple(prime for prime in table[0] if order % prime == 0)


class SmallTables(Case):
    def test_by_going_through_all_things_and_pairs(self):
        for table in SMALL:
            group = reference.group(table)
            kinds = Counter()
            for x, held in group.classes.items():
                if x == held[0]:
                    kinds[primes_of_order(table, group.order(x)), len(held)] += 1
            expected = tuple(sorted((primes, size, count) for (primes, size), count in kinds.items()))
            pairs = sum(len(late) for late in group.fellows.values())
            share = Fraction(pairs, len(group.things) ** 2)
            self.same(class_count(table), len({held[0] for held in group.classes.values()}))
            self.same(classes_of(table), expected)
            self.same(exchanged_pairs(table), pairs)
            self.same(chance_of(table), (share.numerator, share.denominator))
            centre = [x for x, late in group.fellows.items() if len(late) == len(group.things)]
            still = tuple(prime for k, prime in enumerate(table[0]) if any(x[k] for x in centre))
            self.same(centre_primes(table), still)
            self.same(len(centre), reference.number((still, ())))

    def test_forms_of_two_and_three_movers_on_one_prime(self):
        for table in (samples.MIXED, samples.THREE):
            things = reference.all_things(table)
            forms = {class_form(table, x) for x in things}
            self.same(class_count(table), len(forms))
            sizes = Counter(class_size(table, x) for x in forms)
            told = Counter()
            for _, size, count in classes_of(table):
                told[size] += count
            self.same(sorted(told.items()), sorted(sizes.items()))


class GreatTables(Case):
    def test_by_consequence(self):
        for table in ALL:
            number = reference.number(table)
            rows = classes_of(table=table)
            self.same(list(rows), sorted(set(rows)))
            self.same(rows[0], ((), 1, 1))
            self.same(sum(size * count for _, size, count in rows), number)
            self.same(sum(count for _, _, count in rows), class_count(table=table))
            self.assertTrue(all(count > 0 and number % size == 0 for _, size, count in rows))
            self.same(exchanged_pairs(table=table), number * class_count(table))
            self.same(exchanged_pairs(table), exchanged_rows(table, 2))
            things = Counter()
            for primes, size, count in rows:
                things[primes] += size * count
            self.same(tuple(sorted(things.items())), orders_of(table))
            top, bottom = chance_of(table=table)
            self.same(gcd(top, bottom), 1)
            self.same(top * number, bottom * class_count(table))
            busy = {prime for pair in reference.web(table) for prime in pair}
            self.same(centre_primes(table=table), tuple(prime for prime in table[0] if prime not in busy))
            self.same(centre_primes(table), still_for(table, (table[0], ()))[0])

    def test_sizes_of_classes_of_each_order(self):
        for table in ALL:
            sizes = {(primes, size) for primes, size, _ in classes_of(table)}
            for x in patterned(table) + samples.spread(table, 5):
                order = primes_of_order(table, self.order(table, x))
                self.assertIn((order, class_size(table, x)), sizes)

    def order(self, table, x):
        total = 1
        for prime, rest, factor in zip(table[0], x, reference.factors(table, x)):
            total *= prime if rest and factor == 1 else 1
        return total

    def test_a_still_prime_more(self):
        for table in ALL:
            if len(table[0]) == 8:
                continue
            for prime in (9973, 8191):
                more = with_prime(table, prime)
                self.same(class_count(more), prime * class_count(table))
                self.same(chance_of(more), chance_of(table))
                self.same(centre_primes(more), centre_primes(table) + (prime,))

    def test_the_chance_of_joined_tables(self):
        tables = (samples.SIX, samples.TWO, ((5, 11), ((5, ((11, 3),)),)), samples.great_table((71, 4943, 9887, 9941), (
                (71, 9941), (4943, 9887))), ((19,), ()))
        for table in tables:
            for other in tables:
                if set(table[0]) & set(other[0]):
                    continue
                share = Fraction(*chance_of(table)) * Fraction(*chance_of(other))
                self.same(chance_of(joined(table, other)), (share.numerator, share.denominator))
                self.same(class_count(joined(table, other)), class_count(table) * class_count(other))

    def test_tables_with_one_web_have_the_same(self):
        for table in samples.GREAT + (samples.TWO, samples.PAIRED):
            other = samples.other_roots(table)
            for call in CALLS:
                self.same(call(other), call(table))
        for call in CALLS:
            self.same(call(samples.TWO), call(samples.TWIN))
            self.same(call(samples.PAIRED), call(samples.PARTED))

    def test_still_primes_alone(self):
        table = samples.GREAT[4]
        number = reference.number(table)
        self.same([class_count(table), exchanged_pairs(table), chance_of(table), centre_primes(table)],
                  [number, number * number, (1, 1), table[0]])
        self.same([(primes, size) for primes, size, _ in classes_of(table)],
                  [(primes, 1) for primes in reference.subsets(table[0])])

    def test_no_primes_and_one_prime(self):
        self.same([call(samples.NONE) for call in CALLS], [1, (((), 1, 1),), 1, (1, 1), ()])
        self.same([call(((7,), ())) for call in CALLS], [7, (((), 1, 1), ((7,), 1, 6)), 49, (1, 1), (7,)])

    def test_wrong_inputs(self):
        for call in CALLS:
            wrong.check_refusals(self, call, {"table": samples.SIX}, {"table": wrong.table})


if __name__ == "__main__":
    unittest.main()
