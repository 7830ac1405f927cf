"""The web told back by counts ([57] [58], (W1))."""

import unittest
from collections import Counter

from tests import reference, samples, wrong
from tests.support import Case
from whoacts.classcounts import class_count, classes_of
from whoacts.counts import all_parts, all_whole, degrees_of, part_count, turning_count, whole_count
from whoacts.errors import NotUsable
from whoacts.orders import things_of_order
from whoacts.toldback import web_by_degrees, web_by_orders, web_by_parts, web_by_sizes, web_by_wholes

SETS = ((), (2,), (7,), (2, 3), (2, 5), (3, 5), (3, 7), (2, 3, 5), (2, 3, 7), (3, 7, 13), (2, 7, 29), (2, 3, 5, 7),
        (2, 3, 5, 37), (2, 3, 5, 31), (2, 3, 7, 13), (5, 11, 31, 71))
GREAT_SETS = ((2, 3, 5, 9931, 9941, 9949, 9967, 9973), (277, 331, 829, 1657, 9931, 9949, 9967, 9973),
              (2, 9901, 9907, 9923, 9929, 9949, 9967, 9973), (9901, 9907, 9923, 9929, 9931, 9941, 9949, 9973))


def table_with(primes, web):
    return samples.table_of(primes, [(p, q, samples.some_root(p, q)) for p, q in web])


def parts(table):
    return tuple(part_count(table, (prime,)) for prime in table[0])


def orders(table):
    return tuple(things_of_order(table, (prime,)) for prime in table[0])


def wholes(table):
    return tuple(primes for primes in reference.subsets(table[0]) if whole_count(table, primes))


def sizes(table):
    count = Counter()
    for _, size, number in classes_of(table):
        count[size] += size * number
    return tuple(sorted(count.items()))


WAYS = ((web_by_parts, parts, "numbers"), (web_by_orders, orders, "numbers"), (web_by_wholes, wholes, "numbers"),
        (web_by_sizes, sizes, "pairs"), (web_by_degrees, degrees_of, "pairs"))


def numbers_near(told):
    """Tuples of numbers of which one or two are others."""
    for k, number in enumerate(told):
        for late in (number + 1, number - 1, 0, 1, 2 * number, number * number, number * 7, number * 10**70):
            yield told[:k] + (max(late, 0),) + told[k + 1:]
        for j in range(k):
            yield told[:j] + (told[k],) + told[j + 1:k] + (told[j],) + told[k + 1:]


def sets_near(primes, told):
    """Sets of sets of primes of which one or two more are there, or missing."""
    for k in range(len(told)):
        yield told[:k] + told[k + 1:]
        yield told[:k] + told[k + 2:]
    for late in reference.subsets(primes):
        if late not in told:
            yield tuple(sorted(told + (late,)))
            yield tuple(sorted(told[1:] + (late,)))
            yield tuple(sorted(told[:-1] + (late,)))
    yield ()
    yield tuple(reference.subsets(primes))


def pairs_near(primes, told):
    """Sets of pairs of which one has another number or size, is missing, or stands twice."""
    n = reference.number((primes, ()))
    for k, (size, number) in enumerate(told):
        rest = told[:k] + told[k + 1:]
        yield rest
        others = [(size, number + 1), (size, number - 1), (size, 2 * number), (size + 1, number), (2 * size, number),
                  (number, size), (n, number), (size, n), (size, number * size), (1, 1), (size, 10**89), (10**89, number)]
        for late in others:
            if min(late) > 0 and late not in rest:
                yield tuple(sorted(rest + (late,)))
        for early in range(1, min(number, 4)):
            twice = {(size, early), (size, number - early)}
            yield tuple(sorted(set(rest) | twice))
        yield tuple(sorted(set(told) | {(size, number + 1)}))
        yield tuple(sorted(set(told) | {(size + 1, number)}))
        yield tuple(sorted(set(told) | {(size * 7, 1)}))
        for other, late in rest:
            yield tuple(sorted(set(told) - {(size, number), (other, late)} | {(size, late), (other, number)}))
    yield ()


class AllWebs(Case):
    def test_each_web_is_told_back_and_nothing_else(self):
        for primes in SETS:
            tables = {tuple(web): table_with(primes, web) for web in samples.webs(primes)}
            for call, count, word in WAYS:
                known = {count(table): web for web, table in tables.items()}
                self.assertEqual(len(known), len(tables))
                for told, web in known.items():
                    self.same(call(primes, told), web)
                    self.same(call(**{word: told, "primes": primes}), web)
                for told in list(known)[::len(known) // 9 + 1]:
                    for late in self.near(call, primes, told):
                        self.same(call(primes, late), known.get(late), late)

    def near(self, call, primes, told):
        if call in (web_by_parts, web_by_orders):
            return numbers_near(told)
        return sets_near(primes, told) if call is web_by_wholes else pairs_near(primes, told)

    def test_counts_of_small_tables_by_going_through_their_things(self):
        for table in samples.SMALL + samples.MIDDLE[:4]:
            group = reference.group(table)
            primes, web = table[0], tuple(reference.web(table))
            made = Counter(len(part) for part in group.parts)
            ordered = Counter(group.order(x) for x in group.things)
            whole = sorted(tuple(p for p in primes if len(part) % p == 0) for part in group.parts
                           if all(group.turned(x, y) in part for x in part for y in group.things[1::2]))
            sized = Counter(len(rows) for rows in group.classes.values())
            self.same(web_by_parts(primes, tuple(made[prime] for prime in primes)), web)
            self.same(web_by_orders(primes, tuple(ordered[prime] for prime in primes)), web)
            self.same(web_by_wholes(primes, tuple(whole)), web)
            self.same(web_by_sizes(primes, tuple(sorted(sized.items()))), web)

    def test_counts_of_tables_with_other_primes(self):
        for primes in SETS:
            for other in SETS:
                for call, count, _ in WAYS:
                    told = count(table_with(other, ()))
                    try:
                        got = call(primes, told)
                    except NotUsable:
                        continue
                    self.same(got, () if told == count(table_with(primes, ())) else None)


class GreatTables(Case):
    def test_great_tables(self):
        for table in samples.GREAT:
            for call, count, _ in WAYS:
                told, web = count(table), tuple(reference.web(table))
                self.same(call(table[0], told), web)
                self.same(call(table[0], count(samples.other_roots(table))), web)

    def test_webs_of_great_primes(self):
        for primes in GREAT_SETS:
            pairs = [(p, q) for p in primes for q in primes if q != p and (q - 1) % p == 0]
            for k in range(8):
                movers = {p for at, (p, _) in enumerate(pairs) if (at * 5 + k) % 3 == 0}
                web = tuple(pair for at, pair in enumerate(pairs)
                            if pair[0] in movers and pair[1] not in movers and (at + k) % 4)
                table = table_with(primes, web)
                for call, count, _ in WAYS:
                    self.same(call(primes, count(table)), web)

    def test_other_counts_of_great_primes(self):
        for table in samples.GREAT[:3] + samples.GREAT[5:]:
            primes = table[0]
            for call, count in ((web_by_parts, parts), (web_by_orders, orders)):
                known = count(table)
                for told in numbers_near(known):
                    got = call(primes, told)
                    if got is not None:
                        self.same(count(table_with(primes, got)), told)
                    elif told != known:
                        self.same(got, None)
            for call, count in ((web_by_sizes, sizes), (web_by_degrees, degrees_of)):
                for told in list(pairs_near(primes, count(table)))[::23]:
                    got = call(primes, told)
                    self.assertTrue(got is None or count(table_with(primes, got)) == told)
            for told in list(sets_near(primes, wholes(table)))[::23]:
                got = web_by_wholes(primes, told)
                self.assertTrue(got is None or wholes(table_with(primes, got)) == told)


class Consequences(Case):
    def test_single_numbers_that_do_not_tell_the_web(self):
        early, late = table_with((2, 3, 7), ((2, 7),)), table_with((2, 3, 7), ((3, 7),))
        self.same([all_parts(early), all_whole(early)], [all_parts(late), all_whole(late)])
        self.same([turning_count(late), turning_count(table_with((2, 3, 7), ((2, 7), (3, 7))))], [42, 42])
        self.same([class_count(table_with((2, 3, 5, 37), web)) for web in (((2, 37), (3, 37)), ((2, 5), (3, 37)))], [60, 60])

    def test_no_primes(self):
        self.same([web_by_parts((), ()), web_by_orders((), ()), web_by_wholes((), ((),)), web_by_sizes((), ((1, 1),)),
                   web_by_degrees((), ((1, 1),))], [()] * 5)
        self.same([web_by_wholes((), ()), web_by_sizes((), ()), web_by_degrees((), ()), web_by_sizes((), ((1, 2),)),
                   web_by_degrees((), ((2, 1),))], [None] * 5)


class WrongInputs(Case):
    def test_wrong_inputs(self):
        takes = {"primes": wrong.prime_set, "numbers": wrong.numbers_each}
        for call in (web_by_parts, web_by_orders):
            wrong.check_refusals(self, call, {"primes": (2, 3), "numbers": (3, 2)}, takes)
            wrong.check_refusals(self, call, {"primes": (2, 3, 5, 7, 11), "numbers": (1,) * 5}, takes)
        takes["numbers"] = wrong.set_of_sets
        wrong.check_refusals(self, web_by_wholes, {"primes": (2, 3), "numbers": ((), (2, 3), (3,))}, takes)
        takes["pairs"] = wrong.set_of_pairs
        wrong.check_refusals(self, web_by_sizes, {"primes": (2, 3), "pairs": ((1, 1), (2, 2), (3, 3))}, takes)
        wrong.check_refusals(self, web_by_degrees, {"primes": (2, 3), "pairs": ((1, 2), (2, 1))}, takes)

    def test_values_of_other_forms(self):
        for call, word, told, right in (
                (web_by_parts, "numbers", (3, 1), wrong.numbers_each), (web_by_orders, "numbers", (3, 2), wrong.numbers_each),
                (web_by_wholes, "numbers", ((), (2, 3), (3,)), wrong.set_of_sets),
                (web_by_sizes, "pairs", ((1, 1), (2, 2), (3, 3)), wrong.set_of_pairs),
                (web_by_degrees, "pairs", ((1, 2), (2, 1)), wrong.set_of_pairs)):
            for value in wrong.changed(told):
                if not right({"primes": (2, 3)}, value):
                    self.raises(NotUsable, {"word": word, "at": -1}, call, (2, 3), value)
                elif value != told:
                    # Only the counts of the two still primes are those of a table, too.
                    still = call((2, 3), value) == ()
                    self.same(call((2, 3), value), () if still else None)
                    self.same(still, value in ((1, 1), (1, 2), ((1, 6),), ((), (2,), (2, 3), (3,))))

    def test_too_many_primes_and_great_ones(self):
        nine = (2, 3, 5, 7, 11, 13, 17, 19, 23)
        for call, count, _ in WAYS:
            told = count(table_with(nine[:8], ()))
            self.same(call(nine[:8], told), ())
            for primes in (nine, (2, 10007), (3, 2), (2, 2), [2, 3], (2, 4), (2, True), 2, None):
                self.raises(NotUsable, {"word": "primes", "at": -1}, call, primes, told)
                self.raises(NotUsable, {"word": "primes", "at": -1}, call, primes, None)


if __name__ == "__main__":
    unittest.main()
