"""Parts, whole parts, degrees and turnings counted ([52] [53] [54], (S5) (S7))."""

import itertools
import unittest
from collections import Counter

from tests import reference, samples, wrong
from tests.support import Case
from tests.test_parts import some_parts
from whoacts.classcounts import class_count
from whoacts.counts import all_parts, all_whole, degrees_of, part_count, turning_count, whole_count
from whoacts.partorders import how_many_turned
from whoacts.wholeparts import is_whole

SMALL = samples.SMALL + samples.MIDDLE
ALL = SMALL + samples.GREAT + samples.DOCUMENT + (samples.PAIRED, samples.PARTED)
CALLS = (all_parts, all_whole, degrees_of, turning_count)


def degrees_by_definition(table):
    """The degrees as [8] tells them, one by one, with how often each stands."""
    movers = reference.movers(table)
    web = reference.web(table)
    count = Counter()
    for a in reference.subsets([prime for prime in table[0] if prime not in movers]):
        e = reference.number(({mover for mover, q in web if q in a}, ()))
        first = 1
        for prime in a:
            first *= prime - 1
        count[e] += (first // e) * (reference.number((movers, ())) // e)
    return tuple(sorted(count.items()))


def turnings_by_trying(group):
    """How many turnings a small group has: all images of some things that make it."""
    things = group.things
    makers = makers_by_trying(group)
    orders = {x: group.order(x) for x in things}
    steps = []
    seen = {things[0]}
    late = [things[0]]
    while late:
        x = late.pop(0)
        for k, maker in enumerate(makers):
            y = group.product(x, maker)
            steps.append((group.at[x], k, group.at[y], y not in seen))
            if y not in seen:
                seen.add(y)
                late.append(y)
    choices = [[group.at[x] for x in things if orders[x] == orders[maker]] for maker in makers]
    return sum(leads_on(group, steps, images) for images in itertools.product(*choices))


def leads_on(group, steps, images):
    """Whether a turning leads the makers to these images."""
    image = {0: 0}
    for x, k, y, is_new in steps:
        z = group.rows[image[x]][images[k]]
        if is_new:
            image[y] = z
        elif image[y] != z:
            return False
    return len(set(image.values())) == len(group.things)


def makers_by_trying(group):
    for k in range(3):
        for makers in itertools.combinations(group.things, k):
            if len(group.closure(makers)) == len(group.things):
                return makers
    raise AssertionError(group.table)


class ByDivisor(Case):
    def test_all_parts_of_small_tables(self):
        for table in SMALL:
            group = reference.group(table)
            counts = Counter(len(part) for part in group.parts)
            wholes = Counter(len(part) for part in group.parts
                             if all(group.turned(x, y) in part for x in part for y in group.things[1::2]))
            for primes in reference.subsets(table[0]):
                size = reference.number((primes, ()))
                self.same(part_count(primes=primes, table=table), counts[size])
                self.same(whole_count(primes=primes, table=table), wholes[size])
            self.same(all_parts(table), len(group.parts))
            self.same(all_whole(table), sum(wholes.values()))

    def test_by_consequence(self):
        for table in ALL:
            web = reference.web(table)
            parts = wholes = 0
            for primes in reference.subsets(table[0]):
                expected = reference.number((reference.moved_outside(table, primes), ()))
                closed = all(q in primes for mover, q in web if mover in primes)
                self.same([part_count(table, primes), whole_count(table, primes)], [expected, 1 if closed else 0])
                self.same(part_count(table, primes) == 1, closed)
                parts += expected
                wholes += closed
            self.same([all_parts(table=table), all_whole(table=table)], [parts, wholes])

    def test_parts_as_told(self):
        for table in ALL:
            for part in some_parts(table)[:40]:
                self.same(part_count(table, part[0]), how_many_turned(table, part))
                self.same(whole_count(table, part[0]), 1 if is_whole(table, part) else 0)

    def test_edges(self):
        for table in ALL:
            for primes in ((), table[0]):
                self.same([part_count(table, primes), whole_count(table, primes)], [1, 1])
        self.same([all_parts(samples.NONE), all_whole(samples.NONE)], [1, 1])
        self.same([all_parts(((9973,), ())), all_whole(((9973,), ()))], [2, 2])
        self.same([all_parts(samples.GREAT[4]), all_whole(samples.GREAT[4])], [256, 256])

    def test_the_document_on_parts_and_wholes_in_all(self):
        for table in (((2, 3, 7), ((2, ((7, 6),)),)), ((2, 3, 7), ((3, ((7, 2),)),))):
            self.same([all_parts(table), all_whole(table)], [20, 6])


class Degrees(Case):
    def test_by_definition(self):
        for table in ALL:
            self.same(degrees_of(table=table), degrees_by_definition(table))

    def test_by_consequence(self):
        for table in ALL:
            degrees = degrees_of(table)
            self.same(sum(number * size * size for size, number in degrees), reference.number(table))
            self.same(sum(number for _, number in degrees), class_count(table))
            # Those of size 1 are as many as primes that are not moved let.
            unmoved = [prime for prime in table[0] if prime not in reference.moved_ones(table)]
            self.same(degrees[0], (1, reference.number((unmoved, ()))))

    def test_small_tables(self):
        for table in SMALL:
            group = reference.group(table)
            exchangers = [x for x, count in group.exchangers.items() if count]
            least = group.closure(exchangers)
            self.same(degrees_of(table)[0], (1, len(group.things) // len(least)))
            self.same(sum(number for _, number in degrees_of(table)), len({rows[0] for rows in group.classes.values()}))

    def test_edges(self):
        self.same(degrees_of(samples.NONE), ((1, 1),))
        self.same(degrees_of(((7,), ())), ((1, 7),))
        self.same(degrees_of(samples.GREAT[4]), ((1, reference.number(samples.GREAT[4])),))


class Turnings(Case):
    def test_by_trying_all_images(self):
        for table in samples.SMALL + samples.MIDDLE[:3]:
            self.same(turning_count(table), turnings_by_trying(reference.group(table)))

    def test_by_consequence(self):
        for table in ALL:
            expected = 1
            moved, movers = reference.moved_ones(table), reference.movers(table)
            for prime in table[0]:
                expected *= prime * (prime - 1) if prime in moved else 1 if prime in movers else prime - 1
            self.same(turning_count(table=table), expected)

    def test_a_single_number_need_not_tell_the_web(self):
        self.same([turning_count(((2, 3, 7), ((3, ((7, 2),)),))), turning_count(((2, 3, 7), ((2, ((7, 6),)), (3, ((7, 2),)))))],
                  [42, 42])
        self.same(turning_count(samples.NONE), 1)


class WrongInputs(Case):
    def test_wrong_inputs(self):
        takes = {"table": wrong.table, "primes": wrong.primes}
        for call in (part_count, whole_count):
            wrong.check_refusals(self, call, {"table": samples.MIXED, "primes": (2, 7)}, takes)
        for call in CALLS:
            wrong.check_refusals(self, call, {"table": samples.MIXED}, takes)


if __name__ == "__main__":
    unittest.main()
