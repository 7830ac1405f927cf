"""All plain counts of a table ([55] [56], (W1)), and the class Counts ([61])."""

import unittest

from tests import reference, samples, wrong
from tests.support import Case
from tests.test_counts import turnings_by_trying
from whoacts.allcounts import counts_alike, counts_of, first_apart
from whoacts.classcounts import classes_of, exchanged_pairs
from whoacts.countclasses import Counts
from whoacts.counts import all_parts, degrees_of, part_count, turning_count, whole_count
from whoacts.errors import NotUsable
from whoacts.orders import orders_of
from whoacts.webcounts import unlike_count

ALL = samples.SMALL + samples.MIDDLE + samples.GREAT + samples.DOCUMENT + (samples.PAIRED, samples.PARTED)
WEBS = tuple(samples.table_of(primes, [(p, q, samples.some_root(p, q)) for p, q in web])
             for primes in ((2, 3, 7), (2, 3, 5, 31), (3, 7, 13)) for web in samples.webs(primes))


def plain_counts(table):
    """What [8] calls plain counts, of a small table, by going through its things and parts."""
    group = reference.group(table)
    sizes = sorted(len(part) for part in group.parts)
    wholes = sorted(len(part) for part in group.parts if all(group.turned(x, y) in part for x in part for y in group.things))
    classes = sorted((group.order(x), len(rows)) for x, rows in group.classes.items() if rows[0] == x)
    orders = sorted(group.order(x) for x in group.things)
    pairs = sum(len(late) for late in group.fellows.values())
    return sizes, wholes, orders, classes, pairs, turnings_by_trying(group)


class CountsOf(Case):
    def test_each_of_the_seven(self):
        for table in ALL:
            sets = reference.subsets(table[0])
            parts = tuple((primes, part_count(table, primes)) for primes in sets)
            wholes = tuple((primes, 1) for primes in sets if whole_count(table, primes))
            self.same(counts_of(table=table), (parts, wholes, orders_of(table), classes_of(table), exchanged_pairs(table),
                                               degrees_of(table), turning_count(table)))

    def test_small_tables(self):
        for table in samples.SMALL:
            parts, wholes, orders, classes, pairs, _, turnings = counts_of(table)
            many = [reference.number((primes, ())) for primes, number in parts for _ in range(number)]
            whole = [reference.number((primes, ())) for primes, number in wholes for _ in range(number)]
            ordered = [reference.number((primes, ())) for primes, number in orders for _ in range(number)]
            kinds = [(reference.number((primes, ())), size) for primes, size, number in classes for _ in range(number)]
            self.same((sorted(many), sorted(whole), sorted(ordered), sorted(kinds), pairs, turnings), plain_counts(table))

    def test_no_primes(self):
        self.same(counts_of(samples.NONE), ((((), 1),), (((), 1),), (((), 1),), (((), 1, 1),), 1, ((1, 1),), 1))


class Alike(Case):
    def test_small_tables_with_the_same_primes(self):
        known = {table: plain_counts(table) for table in samples.SMALL + samples.MIDDLE[:3]}
        for table in known:
            for other in known:
                if table[0] != other[0]:
                    self.raises(NotUsable, {"word": "other", "at": -1}, counts_alike, table, other)
                    self.raises(NotUsable, {"word": "other", "at": -1}, first_apart, table, other)
                    continue
                self.same(counts_alike(table, other), known[table] == known[other])
                self.same(counts_of(table) == counts_of(other), known[table] == known[other])

    def test_all_webs(self):
        for table in WEBS:
            for other in WEBS:
                if table[0] != other[0]:
                    continue
                alone = set(reference.web(table)) ^ set(reference.web(other))
                self.same(first_apart(other=other, table=table), min(alone, default=None))
                self.same(counts_alike(other=other, table=table), not alone)
                self.same(counts_of(table) == counts_of(other), not alone)
                # Already the parts of prime order tell the webs apart.
                few = [[part_count(each, (prime,)) for prime in each[0]] for each in (table, other)]
                self.same(few[0] == few[1], not alone)

    def test_great_tables(self):
        for table in samples.GREAT + (samples.TWO, samples.PAIRED):
            other = samples.other_roots(table)
            self.same([counts_alike(table, other), first_apart(table, other)], [True, None])
            self.same(counts_of(table), counts_of(other))
            web = reference.web(table)
            for k, pair in enumerate(web):
                less = samples.great_table(table[0], web[:k] + web[k + 1:])
                self.same([counts_alike(table, less), first_apart(table, less), first_apart(less, table)],
                          [False, pair, pair])
                self.assertNotEqual(counts_of(table), counts_of(less))
        self.same(first_apart(samples.GREAT[0], samples.GREAT[1]), (2, 9931))

    def test_wrong_inputs(self):
        takes = {"table": wrong.table, "other": wrong.table_beside}
        for call in (counts_alike, first_apart):
            wrong.check_refusals(self, call, {"table": samples.SIX, "other": ((2, 3), ())}, takes)
        wrong.check_refusals(self, counts_of, {"table": samples.SIX}, takes)


class CountsClass(Case):
    def test_properties(self):
        for table in ALL:
            it = Counts(table)
            self.assertIs(it.__class__, Counts)
            self.same((it.table_now, it.counts_now, it.web_now), (table, counts_of(table), tuple(reference.web(table))))
            self.same(Counts(table=table).table_now, table)
            self.same(list(it), list(counts_of(table)[0]))
            self.same([len(it), it.many()], [2 ** len(table[0]), all_parts(table)])
            self.same(it.unlike(), unlike_count(table[0], tuple(reference.web(table))))

    def test_pairs_of_counts_by_divisor(self):
        for table in ALL:
            it = Counts(table)
            for primes in reference.subsets(table[0]):
                self.same(it[primes], (part_count(table, primes), whole_count(table, primes)))

    def test_wrong_primes(self):
        for table in (samples.SIX, samples.MIXED, samples.NONE):
            it = Counts(table)
            for value in wrong.any_values() + [it]:
                if reference.is_set_of(table[0], value):
                    self.same(it[value], (part_count(table, value), whole_count(table, value)))
                else:
                    self.raises(NotUsable, {"word": "primes", "at": -1}, lambda late: it[late], value)

    def test_equal_ones(self):
        for table in WEBS + samples.SMALL[:12] + (samples.PAIRED, samples.PARTED):
            for other in WEBS + samples.SMALL[:12] + (samples.PAIRED, samples.PARTED):
                same = table[0] == other[0] and set(reference.web(table)) == set(reference.web(other))
                self.assertIs(Counts(table) == Counts(other), same)
                self.assertIs(Counts(table) != Counts(other), not same)
        self.assertTrue(Counts(samples.TWO) == Counts(samples.TWIN))

    def test_other_values_are_not_equal(self):
        it = Counts(samples.SIX)
        for value in wrong.any_values() + [it.counts_now, samples.SIX]:
            self.assertIs(it == value, False)
            self.assertIs(it != value, True)

    def test_it_never_changes(self):
        it = Counts(samples.MIXED)
        before = repr((it.table_now, it.counts_now, it.web_now, list(it), len(it), it.many(), it.unlike(), it[2, 7]))
        self.raises(NotUsable, {"word": "primes", "at": -1}, lambda late: it[late], [2])
        self.assertFalse(it == Counts(samples.SIX))
        for name in ("table_now", "counts_now", "web_now"):
            with self.assertRaises(AttributeError):
                setattr(it, name, ())
        after = repr((it.table_now, it.counts_now, it.web_now, list(it), len(it), it.many(), it.unlike(), it[2, 7]))
        self.assertEqual(before, after)
        self.same([it.many(), it.unlike()], [all_parts(samples.MIXED), 1])
        self.same([Counts(samples.TWO).unlike(), Counts(samples.PAIRED).unlike(), Counts(samples.NONE).unlike()], [2, 2, 1])

    def test_wrong_inputs(self):
        wrong.check_refusals(self, Counts, {"table": samples.SIX}, {"table": wrong.table})


if __name__ == "__main__":
    unittest.main()
