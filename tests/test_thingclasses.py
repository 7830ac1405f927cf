"""The class Thing."""

import unittest

from tests import reference, samples, wrong
from tests.support import Case
from whoacts.errors import NotUsable
from whoacts.exchanging import turned_by
from whoacts.thingclasses import Thing
from whoacts.things import back_of, order_of, power_of, product_of

ALL = samples.SMALL[::2] + samples.MIDDLE + samples.GREAT + samples.DOCUMENT


class Things(Case):
    def some(self, table):
        return samples.spread(table, 6) + [reference.nought(table), tuple(prime - 1 for prime in table[0])]

    def is_thing(self, it, table, rests):
        self.assertIs(it.__class__, Thing)
        self.same((it.table_now, it.rests_now), (table, rests))

    def test_properties(self):
        for table in ALL:
            for rests in self.some(table):
                self.is_thing(Thing(table, rests), table, rests)
                self.is_thing(Thing(rests=rests, table=table), table, rests)
                self.same(Thing(table, rests).order_now, order_of(table, rests))

    def test_wrong_inputs(self):
        takes = {"table": wrong.table, "rests": wrong.thing}
        wrong.check_refusals(self, Thing, {"table": samples.SIX, "rests": (1, 1)}, takes)
        wrong.check_refusals(self, Thing.nought, {"table": samples.SIX}, {"table": wrong.table})

    def test_nought(self):
        for table in ALL:
            self.is_thing(Thing.nought(table), table, reference.nought(table))
            self.is_thing(Thing.nought(table=table), table, reference.nought(table))

    def test_products_backs_powers_and_turned_things(self):
        for table in ALL:
            things = self.some(table)
            for x in things:
                it = Thing(table, x)
                self.is_thing(-it, table, back_of(table, x))
                for k in (0, 1, -1, 2, 6, -5, 10**39 + 7, -(10**39)):
                    self.is_thing(it.raised(k), table, power_of(table, x, k))
                self.is_thing(it.raised(k=2), table, power_of(table, x, 2))
                for y in things:
                    other = Thing(table, y)
                    self.is_thing(it * other, table, product_of(table, x, y))
                    self.is_thing(it.turned(other), table, turned_by(table, x, y))
                    self.is_thing(it.turned(other=other), table, turned_by(table, x, y))

    def test_powers_are_integers(self):
        it = Thing(samples.SIX, (1, 2))
        for value in wrong.any_values() + [it]:
            if type(value) is not int:
                self.raises(NotUsable, {"word": "k", "at": -1}, it.raised, value)
                self.raises(NotUsable, {"word": "k", "at": -1}, it.raised, k=value)

    def test_others_that_are_no_things_of_an_equal_table(self):
        it = Thing(samples.TWO, (1, 2, 3))
        others = wrong.any_values() + [(1, 2, 3), Thing(samples.TWIN, (1, 2, 3)), Thing(samples.NONE, ()),
                                       Thing(samples.SIX, (1, 1))]
        for value in others:
            self.raises(NotUsable, {"word": "other", "at": -1}, lambda other: it * other, value)
            self.raises(NotUsable, {"word": "other", "at": -1}, it.turned, value)
            self.raises(NotUsable, {"word": "other", "at": -1}, it.turned, other=value)
        self.is_thing(it * Thing(eval(repr(samples.TWO)), (0, 0, 0)), samples.TWO, (1, 2, 3))

    def test_rests_by_prime(self):
        for table in ALL:
            for x in self.some(table):
                it = Thing(table, x)
                for prime, rest in zip(table[0], x):
                    self.same(it[prime], rest)
        it = Thing(samples.MIXED, (1, 2, 3, 4, 5))
        for value in wrong.any_values():
            if type(value) is int and value in samples.MIXED[0]:
                continue
            self.raises(NotUsable, {"word": "prime", "at": -1}, lambda at: it[at], value)

    def test_pairs(self):
        for table in ALL:
            for x in self.some(table):
                it = Thing(table, x)
                pairs = list(zip(table[0], x))
                self.same(list(it), pairs)
                self.same(len(it), len(table[0]))
                for prime, rest in pairs:
                    self.same([(prime, rest) in it, [prime, rest] in it, (prime, rest + 1) in it, (rest, prime) in it],
                              [True, False, False, (rest, prime) in pairs])
                    self.same((prime, rest, rest) in it, False)

    def test_any_value_is_a_pair_of_it_or_not(self):
        it = Thing(samples.SIX, (1, 0))
        for value in wrong.any_values():
            self.same(value in it, repr(value) in ("(2, 1)", "(3, 0)"), value)
        self.same([(2, True) in it, (3, False) in it, (2, 1) in it, (3, 0) in it], [False, False, True, True])

    def test_equality(self):
        for table in ALL:
            for x in self.some(table):
                for y in self.some(table):
                    self.same(Thing(table, x) == Thing(table, y), x == y)
                    self.same(Thing(table, x) != Thing(table, y), x != y)
        it = Thing(samples.TWO, (1, 1, 1))
        self.same(it == Thing(samples.TWIN, (1, 1, 1)), False)
        for value in wrong.any_values() + [(1, 1, 1)]:
            self.same(it == value, False)
            self.same(value == it, False)

    def test_text(self):
        for table in ALL:
            for x in self.some(table):
                self.same(str(Thing(table, x)), " ".join(map(str, x)))
        self.same([str(Thing(samples.NONE, ())), str(Thing(samples.MIXED, (1, 0, 4, 6, 10)))], ["", "1 0 4 6 10"])

    def test_it_never_changes(self):
        it, other = Thing(samples.TWO, (1, 2, 3)), Thing(samples.TWO, (2, 0, 5))
        for use in (lambda: it * other, lambda: -it, lambda: it.raised(5), lambda: it.turned(other), lambda: list(it),
                    lambda: it[3], lambda: str(it), lambda: (3, 1) in it, lambda: it == other, lambda: it.order_now):
            use()
            self.is_thing(it, samples.TWO, (1, 2, 3))
            self.is_thing(other, samples.TWO, (2, 0, 5))
        for name in ("table_now", "rests_now", "order_now"):
            with self.assertRaises(AttributeError):
                setattr(it, name, ())
        with self.assertRaises(TypeError):
            it[3] = 0
        late = it
        late *= other
        self.is_thing(it, samples.TWO, (1, 2, 3))
        self.is_thing(late, samples.TWO, product_of(samples.TWO, (1, 2, 3), (2, 0, 5)))


if __name__ == "__main__":
    unittest.main()
