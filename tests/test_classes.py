"""Classes of things ([42] [43] [44], (S3))."""

import itertools
import unittest

from tests import reference, samples, wrong
from tests.support import Case
from whoacts.classes import class_form, class_size, exchange_count, in_one_class, turner_of
from whoacts.exchanging import turned_by
from whoacts.things import order_of

SMALL = samples.SMALL + samples.MIDDLE + (samples.TWO, samples.TWIN)
ALL = SMALL + samples.GREAT + (samples.MIXED, samples.NONE, samples.THREE, samples.PAIRED, samples.PARTED)
# Great tables of which the movers are few enough to be gone through.
FEW = tuple(table for table in samples.GREAT if all(mover < 18 for mover in reference.movers(table)))


def patterned(table, seed=1):
    """Things with all patterns of rests that are 0, at most sixty."""
    full = [rest or 1 for rest in samples.spread(table, 1, seed)[0]]
    sets = reference.subsets(table[0])
    return [tuple(rest if prime in primes else 0 for prime, rest in zip(table[0], full))
            for primes in sets[::len(sets) // 60 + 1]]


def least_by_trying(table, thing):
    """The least thing of a class, by all rests at movers that a turner can have."""
    movers = reference.movers(table)
    found = []
    for rests in itertools.product(*[range(prime) if prime in movers else [0] for prime in table[0]]):
        turned = turned_by(table, thing, rests)
        free = reference.factors(table, thing)
        found.append(tuple(rest if factor == 1 else 0 for rest, factor in zip(turned, free)))
    return min(found)


class SmallTables(Case):
    def test_sizes_forms_and_how_many_can_be_exchanged(self):
        for table in SMALL + (samples.PAIRED, samples.PARTED):
            group = reference.group(table)
            for x in group.things[::1 if len(group.things) < 300 else 5]:
                self.same(class_size(table, x), len(group.classes[x]))
                self.same(class_form(table, x), min(group.classes[x]))
                if len(group.things) < 300:
                    self.same(exchange_count(table, x), len(group.fellows[x]))

    def test_all_pairs(self):
        for table in SMALL:
            group = reference.group(table)
            for k, x in enumerate(group.things):
                many = len(group.things)
                for y in group.things if many <= 42 else group.classes[x] + group.things[k % 19::19]:
                    self.pair(table, group, x, y)

    def test_pairs_with_two_movers_of_two_primes(self):
        for table in (samples.PAIRED, samples.PARTED):
            group = reference.group(table)
            for k, x in enumerate(group.things[::3]):
                for y in group.classes[x][k % 7::7] + group.things[k % 83::83]:
                    self.pair(table, group, x, y)

    def pair(self, table, group, x, y):
        together = y in group.classes[x]
        self.same(in_one_class(table, x, y), together)
        turner = turner_of(table, x, y)
        if not together:
            self.same(turner, None)
        else:
            self.assertTrue(reference.is_thing(table, turner))
            self.same(group.turned(x, turner), y)

    def test_two_and_three_movers_on_one_prime(self):
        for table in (samples.MIXED, samples.THREE):
            things = reference.all_things(table)
            for x in things[7::len(things) // 60]:
                turned = {turned_by(table, x, y) for y in things}
                self.same(class_size(table, x), len(turned))
                self.same(class_form(table, x), min(turned))
                for y in sorted(turned)[::len(turned) // 10 + 1]:
                    self.same(in_one_class(table, x, y), True)
                    self.same(turned_by(table, x, turner_of(table, x, y)), y)


class GreatTables(Case):
    def test_by_consequence(self):
        for table in ALL:
            number = reference.number(table)
            busy = {prime for pair in reference.web(table) for prime in pair}
            for x in patterned(table) + samples.spread(table, 10):
                size = class_size(thing=x, table=table)
                self.same(size * exchange_count(thing=x, table=table), number)
                self.same(size == 1, all(rest == 0 or prime not in busy for prime, rest in zip(table[0], x)))
                form = class_form(thing=x, table=table)
                self.assertTrue(reference.is_thing(table, form))
                self.assertLessEqual(form, x)
                self.same(class_form(table, form), form)
                self.same(class_size(table, form), size)
                self.same(order_of(table, form), order_of(table, x))
                for prime, rest, late, factor in zip(table[0], x, form, reference.factors(table, x)):
                    self.same(late, 0 if factor != 1 else late)
                    self.same(late == 0, rest == 0 or factor != 1)
                    if prime in reference.movers(table):
                        self.same(rest, late)

    def test_turned_things(self):
        for table in ALL:
            for k, x in enumerate(patterned(table)[::3] + samples.spread(table, 5)):
                form = class_form(table, x)
                for z in samples.spread(table, 4, k):
                    y = turned_by(table, x, z)
                    self.same(in_one_class(other=y, thing=x, table=table), True)
                    turner = turner_of(other=y, thing=x, table=table)
                    self.assertTrue(reference.is_thing(table, turner))
                    self.same(turned_by(table, x, turner), y)
                    self.same(class_form(table, y), form)
                self.same(turned_by(table, x, turner_of(table, x, form)), form)

    def test_things_side_by_side_are_of_one_class_exactly_if_their_forms_are_equal(self):
        for table in ALL:
            things = patterned(table)[::4] + samples.spread(table, 6)
            for x in things:
                for y in [late for late in things[::2]] + self.steps(table, x):
                    together = in_one_class(table, x, y)
                    self.same(together, class_form(table, x) == class_form(table, y))
                    turner = turner_of(table, x, y)
                    self.same(turner is None, not together)
                    if together:
                        self.same(turned_by(table, x, turner), y)

    def steps(self, table, x):
        """The thing with another rest at one prime: one more, times some numbers, or 0."""
        found = []
        for k, (prime, rest) in enumerate(zip(table[0], x)):
            values = [rest + 1, rest * 2, rest * 3, 0] + [rest * root for _, row in table[1] for q, root in row if q == prime]
            found.extend(x[:k] + (value % prime,) + x[k + 1:] for value in values)
        return found

    def test_least_things_where_movers_are_few(self):
        self.assertGreaterEqual(len(FEW), 3)
        for table in FEW:
            for x in patterned(table)[::8] + samples.spread(table, 4):
                if table[0][6] < 1000:
                    continue
                self.same(class_form(table, x), least_by_trying(table, x))

    def test_how_many_are_turned_where_movers_are_few(self):
        for table in FEW[:2] + FEW[-1:]:
            for x in patterned(table)[::7]:
                free = [k for k, factor in enumerate(reference.factors(table, x)) if factor == 1]
                turners = itertools.product(*[range(p) if p in reference.movers(table) else [0] for p in table[0]])
                rests = {tuple(turned_by(table, x, y)[k] for k in free) for y in turners}
                size = len(rests)
                for prime, factor in zip(table[0], reference.factors(table, x)):
                    size *= prime if factor != 1 else 1
                self.same(class_size(table, x), size)

    def test_still_primes_alone(self):
        table = samples.GREAT[4]
        for x in patterned(table)[::5] + samples.spread(table, 5):
            self.same([class_size(table, x), exchange_count(table, x), class_form(table, x)],
                      [1, reference.number(table), x])
            self.same([in_one_class(table, x, x), in_one_class(table, x, x[:7] + ((x[7] + 1) % 9973,))], [True, False])

    def test_no_primes(self):
        self.same([class_size(samples.NONE, ()), exchange_count(samples.NONE, ()), class_form(samples.NONE, ()),
                   in_one_class(samples.NONE, (), ()), turner_of(samples.NONE, (), ())], [1, 1, (), True, ()])

    def test_nought(self):
        for table in ALL:
            nought = reference.nought(table)
            self.same([class_size(table, nought), class_form(table, nought)], [1, nought])
            self.same(exchange_count(table, nought), reference.number(table))


class WrongInputs(Case):
    def test_wrong_inputs(self):
        takes = {"table": wrong.table, "thing": wrong.thing, "other": wrong.thing}
        args = {"table": samples.SIX, "thing": (1, 1), "other": (0, 2)}
        for call in (in_one_class, turner_of):
            wrong.check_refusals(self, call, args, takes)
        for call in (class_size, exchange_count, class_form):
            wrong.check_refusals(self, call, {"table": samples.SIX, "thing": (1, 1)}, takes)


if __name__ == "__main__":
    unittest.main()
