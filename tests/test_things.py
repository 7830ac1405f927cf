"""Things and their products ([4] [22] [23] [24] [25], (S2))."""

import unittest

from tests import reference, samples, wrong
from tests.support import Case
from whoacts.errors import NotUsable
from whoacts.things import back_of, factor_of, is_thing, nought_of, order_of, power_of, product_of

SMALL = samples.SMALL + samples.MIDDLE[:-1:2]
ALL = samples.SMALL + samples.MIDDLE + samples.GREAT + samples.DOCUMENT
LONG = 10**39 + 7


def some_things(table):
    """All things of a small table, some of any other one."""
    if reference.number(table) <= 300:
        return reference.all_things(table)
    return samples.spread(table, 12) + [reference.nought(table)]


class IsThing(Case):
    def test_all_things_and_no_others(self):
        for table in ALL:
            for thing in some_things(table):
                self.same(is_thing(table, thing), True)
                self.same(is_thing(value=list(thing), table=table), False)
                self.same(is_thing(table, thing + (0,)), False)
                if thing:
                    self.same(is_thing(table, thing[:-1]), False)
                for k, prime in enumerate(table[0]):
                    for rest in (-1, prime, prime + 1, -prime, None, True, False, "0", (0,), [0], 10**89):
                        self.same(is_thing(table, thing[:k] + (rest,) + thing[k + 1:]), False)

    def test_the_greatest_rests(self):
        for table in ALL:
            self.same(is_thing(table, tuple(prime - 1 for prime in table[0])), True)
            self.same(is_thing(table, (0,) * len(table[0])), True)

    def test_any_value(self):
        for table in samples.DOCUMENT:
            for value in wrong.any_values():
                before = repr(value)
                self.same(is_thing(table, value), reference.is_thing(table, value), value)
                self.assertEqual(repr(value), before)
        self.same([is_thing(samples.NONE, ()), is_thing(samples.NONE, []), is_thing(samples.NONE, None)],
                  [True, False, False])

    def test_wrong_inputs(self):
        takes = {"table": wrong.table, "value": wrong.judged}
        wrong.check_refusals(self, is_thing, {"table": samples.SIX, "value": (1, 1)}, takes)


class Products(Case):
    def test_nought(self):
        for table in ALL:
            self.same(nought_of(table=table), (0,) * len(table[0]))
        wrong.check_refusals(self, nought_of, {"table": samples.SIX}, {"table": wrong.table})

    def test_all_products_of_small_tables(self):
        for table in SMALL:
            group = reference.group(table)
            for x in group.things:
                for y in group.things[::1 if len(group.things) <= 42 else 7]:
                    self.same(product_of(table, x, y), group.product(x, y))

    def test_products_of_great_tables(self):
        for table in ALL:
            things = some_things(table)[:30]
            for x in things:
                for y in things[::3]:
                    self.same(product_of(table, x, y), reference.times(table, x, y))

    def test_none_one_and_several_things(self):
        for table in ALL:
            nought = reference.nought(table)
            self.same(product_of(table), nought)
            self.same(product_of(table=table), nought)
            things = some_things(table)[-9:]
            total = nought
            for k, thing in enumerate(things):
                self.same(product_of(table, thing), thing)
                total = reference.times(table, total, thing)
                self.same(product_of(table, *things[:k + 1]), total)

    def test_which_two_are_taken_first_does_not_matter(self):
        for table in ALL:
            for x, y, z in zip(samples.spread(table, 8), samples.spread(table, 8, 2), samples.spread(table, 8, 3)):
                early = product_of(table, product_of(table, x, y), z)
                self.same(product_of(table, x, product_of(table, y, z)), early)
                self.same(product_of(table, x, y, z), early)

    def test_backs(self):
        for table in ALL:
            nought = reference.nought(table)
            for x in some_things(table):
                back = back_of(table=table, thing=x)
                self.assertTrue(reference.is_thing(table, back))
                self.same(reference.times(table, x, back), nought)
                self.same(reference.times(table, back, x), nought)
                self.same(back_of(table, back), x)
        takes = {"table": wrong.table, "thing": wrong.thing}
        wrong.check_refusals(self, back_of, {"table": samples.SIX, "thing": (1, 1)}, takes)

    def test_the_first_that_is_no_thing_is_told_by_its_index(self):
        good = (1, 1)
        for value in wrong.any_values():
            if reference.is_thing(samples.SIX, value):
                continue
            for ahead in range(4):
                things = (good,) * ahead + (value, good, value, None)
                self.raises(NotUsable, {"word": "things", "at": ahead}, product_of, samples.SIX, *things)
        for value in wrong.any_values():
            if not reference.is_table(value):
                self.raises(NotUsable, {"word": "table", "at": -1}, product_of, value, value)
                self.raises(NotUsable, {"word": "table", "at": -1}, product_of, value)

    def test_things_of_another_table(self):
        self.raises(NotUsable, {"word": "things", "at": 1}, product_of, samples.SIX, (1, 2), (1, 2, 3))
        self.raises(NotUsable, {"word": "things", "at": 0}, product_of, samples.SIX, (2, 1))


class Powers(Case):
    def test_powers_of_all_things_of_small_tables(self):
        for table in SMALL:
            group = reference.group(table)
            for x in group.things[::1 if len(group.things) <= 42 else 5]:
                for k in list(range(-8, 9)) + [len(group.things), -len(group.things) - 1]:
                    self.same(power_of(table, x, k), group.power(x, k))

    def test_powers_of_great_tables(self):
        for table in ALL:
            for x in some_things(table)[:12]:
                up, down = reference.nought(table), reference.nought(table)
                for k in range(12):
                    self.same(power_of(table, x, k), up)
                    self.same(power_of(table, x, -k), down)
                    up = reference.times(table, up, x)
                    down = reference.times(table, down, back_of(table, x))

    def test_powers_of_forty_digits(self):
        for table in ALL:
            for x in some_things(table)[:10]:
                for k in (LONG, -LONG, 10**39 * 9 + 1, 3**80, -(2**130)):
                    self.same(power_of(k=k, thing=x, table=table), by_squares(table, x, k))

    def test_sums_and_products_of_powers(self):
        for table in ALL:
            for x in some_things(table)[:10]:
                for k, late in ((LONG, 12), (-5, LONG), (LONG, -LONG), (7, -3), (-LONG, LONG - 1)):
                    product = reference.times(table, power_of(table, x, k), power_of(table, x, late))
                    self.same(power_of(table, x, k + late), product)
                for k, late in ((10**18 + 9, 10**19 - 1), (-5, 10**38 + 3), (7, -3), (-1, -2), (3**40, -(3**40))):
                    self.same(power_of(table, power_of(table, x, k), late), power_of(table, x, k * late))

    def test_the_closed_form_at_moved_primes(self):
        for table in ALL:
            for x in some_things(table)[:10]:
                for k in (0, 1, -1, 2, 30, 31, LONG, -LONG):
                    got = power_of(table, x, k)
                    for prime, rest, f, late in zip(table[0], x, reference.factors(table, x), got):
                        if f == 1:
                            self.same(late, rest * k % prime)
                        else:
                            self.same(late * (f - 1) % prime, rest * (pow(f, k, prime) - 1) % prime)

    def test_nought_exactly_if_the_order_divides_k(self):
        for table in ALL:
            nought = reference.nought(table)
            for x in some_things(table)[:40]:
                order = order_of(table, x)
                for k in list(range(-10, 43)) + [order, -order, order * 10**8, order * 10**8 + 1, LONG]:
                    self.same(power_of(table, x, k) == nought, k % order == 0)

    def test_wrong_inputs(self):
        takes = {"table": wrong.table, "thing": wrong.thing, "k": wrong.integer}
        wrong.check_refusals(self, power_of, {"table": samples.SIX, "thing": (1, 1), "k": -3}, takes)


def by_squares(table, x, k):
    """A power by definition, but for taking squares."""
    if k < 0:
        rows = zip(table[0], x, reference.factors(table, x))
        x = tuple(-rest * pow(factor, -1, prime) % prime for prime, rest, factor in rows)
        k = -k
    total = reference.nought(table)
    while k:
        if k & 1:
            total = reference.times(table, total, x)
        x = reference.times(table, x, x)
        k >>= 1
    return total


class Orders(Case):
    def test_orders_of_all_things_of_small_tables(self):
        for table in SMALL + (samples.TWO,):
            group = reference.group(table)
            for x in group.things:
                self.same(order_of(table, x), group.order(x))

    def test_orders_of_great_tables(self):
        for table in ALL:
            number = reference.number(table)
            nought = reference.nought(table)
            for x in some_things(table)[:40]:
                order = order_of(thing=x, table=table)
                self.assertEqual(number % order, 0)
                self.assertEqual(by_squares(table, x, order), nought)
                for prime in table[0]:
                    if order % prime == 0:
                        self.assertNotEqual(by_squares(table, x, order // prime), nought)

    def test_things_and_their_backs_and_products_in_both_directions(self):
        for table in ALL:
            for x, y in zip(some_things(table)[:30], some_things(table)[5:35]):
                self.same(order_of(table, back_of(table, x)), order_of(table, x))
                both = order_of(table, product_of(table, x, y)), order_of(table, product_of(table, y, x))
                self.same(*both)

    def test_wrong_inputs(self):
        takes = {"table": wrong.table, "thing": wrong.thing}
        wrong.check_refusals(self, order_of, {"table": samples.SIX, "thing": (1, 1)}, takes)


class Factors(Case):
    def test_factors(self):
        for table in ALL:
            for x in some_things(table)[:40]:
                for prime in table[0]:
                    self.same(factor_of(table, x, prime), reference.factor(table, x, prime))
                    self.same(factor_of(prime=prime, thing=x, table=table), reference.factor(table, x, prime))

    def test_factors_at_primes_that_are_not_moved_are_one(self):
        for table in ALL:
            for x in some_things(table)[:10]:
                for prime in set(table[0]) - set(reference.moved_ones(table)):
                    self.same(factor_of(table, x, prime), 1)

    def test_wrong_inputs(self):
        takes = {"table": wrong.table, "thing": wrong.thing, "prime": wrong.prime}
        args = {"table": samples.MIXED, "thing": (1, 1, 1, 1, 1), "prime": 7}
        wrong.check_refusals(self, factor_of, args, takes)


if __name__ == "__main__":
    unittest.main()
