"""Rows that can be exchanged ([48], (S3))."""

import itertools
import unittest

from tests import reference, samples, wrong
from tests.support import Case
from tests.test_classes import patterned
from whoacts.classcounts import exchanged_pairs
from whoacts.classes import exchange_count
from whoacts.errors import NotUsable
from whoacts.exchangerows import exchanged_rows, exchanged_with
from whoacts.leftover import table_of_part
from whoacts.orders import things_of_order
from whoacts.partsmade import part_of
from whoacts.wholeparts import still_for

SMALL = samples.SMALL + samples.MIDDLE + (samples.TWO, samples.TWIN)
ALL = SMALL + samples.GREAT + (samples.MIXED, samples.NONE, samples.THREE, samples.PAIRED)
FEW = tuple(table for table in samples.GREAT if all(mover < 18 for mover in reference.movers(table)))


def rows_within(fellows, let, k):
    """How many rows of k of these things can be exchanged, each two of them."""
    if k == 0:
        return 1
    return sum(rows_within(fellows, let & fellows[x], k - 1) for x in let)


def count_with(table, things):
    """How many things can be exchanged with all of these: for all rests at movers, prime by prime."""
    movers = reference.movers(table)
    factors = [reference.factors(table, x) for x in things]
    total = 0
    for rests in itertools.product(*[range(prime) if prime in movers else [0] for prime in table[0]]):
        count = 1
        late = reference.factors(table, rests)
        for k, prime in enumerate(table[0]):
            if prime in movers:
                continue
            pairs = [(x[k], held[k]) for x, held in zip(things, factors)]
            count *= solutions(pairs, late[k], prime)
        total += count
    return total


def solutions(pairs, factor, prime):
    """How many rests y there are with y (1 - f) = x (1 - factor) for all of these pairs x, f."""
    for x, f in pairs:
        if f != 1:
            y = x * (1 - factor) * pow(1 - f, -1, prime) % prime
            return 1 if all((y * (1 - g) - z * (1 - factor)) % prime == 0 for z, g in pairs) else 0
    return prime if all(x * (1 - factor) % prime == 0 for x, _ in pairs) else 0


class Rows(Case):
    def test_by_going_through_all_rows(self):
        for table in SMALL:
            fellows = reference.group(table).fellows
            every = frozenset(fellows)
            for k in range(5 if len(every) <= 15 else 4 if len(every) <= 66 else 3):
                self.same(exchanged_rows(table, k), rows_within(fellows, every, k))

    def test_long_rows_of_six_things(self):
        fellows = reference.group(samples.SIX).fellows
        for k in range(9):
            self.same(exchanged_rows(k=k, table=samples.SIX), rows_within(fellows, frozenset(fellows), k))

    def test_great_tables(self):
        for table in ALL:
            number = reference.number(table)
            self.same([exchanged_rows(table, k) for k in (0, 1, 2)], [1, number, exchanged_pairs(table)])
            for k in (3, 4, 7, 8) if len(table[0]) < 8 else (3, 8):
                total = 0
                for primes in reference.subsets(table[0]):
                    # The rows that begin with a thing go on with things that can be exchanged with it.
                    x = tuple(1 if prime in primes else 0 for prime in table[0])
                    within = table_of_part(table, still_for(table, part_of(table, (x,))))
                    total += things_of_order(table, primes) * exchanged_rows(within, k - 1)
                self.same(exchanged_rows(table, k), total)

    def test_still_primes_alone(self):
        table = samples.GREAT[4]
        for k in range(9):
            self.same(exchanged_rows(table, k), reference.number(table) ** k)

    def test_edges(self):
        for k in range(9):
            self.same(exchanged_rows(samples.NONE, k), 1)
            self.same(exchanged_rows(((7,), ()), k), 7 ** k)
        for table in ALL:
            for k in (9, 10, 40, 10**89):
                self.raises(NotUsable, {"word": "k", "at": -1}, exchanged_rows, table, k)

    def test_tables_with_one_web_have_the_same(self):
        for table in samples.GREAT + (samples.TWO, samples.PAIRED):
            for k in (2, 3, 8):
                self.same(exchanged_rows(samples.other_roots(table), k), exchanged_rows(table, k))

    def test_wrong_inputs(self):
        takes = {"table": wrong.table, "k": wrong.up_to_eight}
        wrong.check_refusals(self, exchanged_rows, {"table": samples.SIX, "k": 2}, takes)


class ExchangedWith(Case):
    def test_small_tables(self):
        for table in SMALL:
            group = reference.group(table)
            self.same(exchanged_with(table), len(group.things))
            self.same(exchanged_with(table=table), len(group.things))
            for k, x in enumerate(group.things):
                self.same(exchanged_with(table, x), len(group.fellows[x]))
                for y in group.things[k % 5::5] if len(group.things) <= 66 else group.things[k % 29::29]:
                    both = group.fellows[x] & group.fellows[y]
                    self.same(exchanged_with(table, x, y), len(both))
                    z = group.things[(3 * k + 1) % len(group.things)]
                    self.same(exchanged_with(table, x, y, z), len(both & group.fellows[z]))
                    self.same(exchanged_with(table, x, y, y, x), len(both))

    def test_one_thing_of_a_great_table(self):
        for table in ALL:
            for x in patterned(table) + samples.spread(table, 5):
                self.same(exchanged_with(table, x), exchange_count(table, x))
                self.same(exchanged_with(table, x, reference.nought(table), x), exchange_count(table, x))

    def test_several_things_where_movers_are_few(self):
        for table in FEW[:2] + FEW[-1:] + (samples.MIXED, samples.THREE, samples.PAIRED):
            for k in range(9):
                things = samples.spread(table, k, k) if k % 2 else patterned(table, k)[::9][:k]
                self.same(exchanged_with(table, *things), count_with(table, things))

    def test_eight_things_of_one_part(self):
        for table in ALL:
            for x in samples.spread(table, 3):
                powers = [reference.power(table, x, k) for k in range(1, 9)]
                self.same(exchanged_with(table, *powers), exchange_count(table, x))

    def test_wrong_inputs(self):
        wrong.check_refused_things(self, exchanged_with, samples.SIX, ((1, 2), (0, 1), (1, 0)))
        wrong.check_refused_things(self, exchanged_with, samples.MIXED, ())
        self.raises(NotUsable, {"word": "things", "at": 1}, exchanged_with, samples.SIX, (1, 2), (1, 2, 3))
        self.raises(NotUsable, {"word": "things", "at": 0}, exchanged_with, samples.SIX, [(1, 2)])


if __name__ == "__main__":
    unittest.main()
