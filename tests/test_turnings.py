"""Turnings ([7] [80], (S7))."""

import itertools
import unittest

from tests import mapsamples, reference, samples, wrong
from tests.support import Case
from whoacts.counts import turning_count
from whoacts.errors import NotUsable
from whoacts.mapping import kernel_of, map_behind, mapped
from whoacts.maps import is_map
from whoacts.turnings import inner_by, is_inner, told_turning, turning_of

ALL = samples.SMALL + samples.MIDDLE + samples.GREAT + samples.DOCUMENT + (samples.PAIRED, samples.PARTED)


def others(table):
    """The primes that are no movers."""
    return [prime for prime in table[0] if prime not in reference.movers(table)]


def all_told(table):
    """All pairs of factors and shifts."""
    primes, moved = others(table), reference.moved_ones(table)
    for factors in itertools.product(*[range(1, q) for q in primes]):
        for shifts in itertools.product(*[range(q) for q in moved]):
            yield tuple(zip(primes, factors)), tuple(zip(moved, shifts))


def some_told(table, count):
    """Some pairs of factors and shifts, with the least and the greatest ones."""
    primes, moved = others(table), reference.moved_ones(table)
    found = [(tuple((q, 1) for q in primes), tuple((q, 0) for q in moved)),
             (tuple((q, q - 1) for q in primes), tuple((q, q - 1) for q in moved))]
    for k in range(count):
        first, late = [dict(zip(table[0], thing)) for thing in samples.spread(table, 2, k)]
        found.append((tuple((q, first[q] or 1) for q in primes), tuple((q, late[q]) for q in moved)))
    return found


def images_told(table, factors, shifts):
    """The images as the document tells them, prime by prime."""
    factors, shifts = dict(factors), dict(shifts)
    rows = dict(table[1])
    images = []
    for prime in table[0]:
        rests = {prime: factors.get(prime, 1)}
        for q, root in rows.get(prime, ()):
            rests[q] = (1 - root) * shifts[q] % q
        images.append(tuple(rests.get(late, 0) for late in table[0]))
    return tuple(images)


def turnings(table):
    """All maps from a small table to itself that are one to one, by all tuples of things."""
    many = reference.number(table)
    return {images for images, told in reference.all_maps(table, table).items() if len(set(told.values())) == many}


class Turnings(Case):
    def test_all_tuples_of_things(self):
        for table in samples.SMALL + (samples.all_tables((2, 3, 11))[2],):
            found = turnings(table)
            told = list(all_told(table))
            self.same(len(found), len(told))
            self.same(turning_count(table), len(found))
            self.same({turning_of(table=table, factors=factors, shifts=shifts) for factors, shifts in told} == found, True)
            for factors, shifts in told:
                images = turning_of(table, factors, shifts)
                self.same(images, images_told(table, factors, shifts))
                self.same(told_turning(images=images, table=table), (factors, shifts))
            for images in reference.all_maps(table, table):
                if images in found:
                    self.same(turning_of(table, *told_turning(table, images)), images)
                else:
                    wrong.is_refused(self, "images", told_turning, table, images)
                    wrong.is_refused(self, "images", is_inner, table, images)

    def test_great_tables(self):
        for table in ALL:
            for factors, shifts in some_told(table, 8):
                images = turning_of(table, factors, shifts)
                self.same(images, images_told(table, factors, shifts))
                self.same(is_map(table, table, images), True)
                self.same(kernel_of(table, table, images), ((), ()))
                self.same(told_turning(table, images), (factors, shifts))
            for k in range(4):
                images = mapsamples.turning(table, k)
                self.same(turning_of(table, *told_turning(table, images)), images)

    def test_one_behind_another(self):
        for table in ALL:
            told = some_told(table, 3)
            for first, late in itertools.product(told, repeat=2):
                images = turning_of(table, *first)
                ends = turning_of(table, *late)
                both = map_behind(table, table, table, images, ends)
                factors, _ = told_turning(table, both)
                self.same(factors, tuple((q, f * g % q) for (q, f), (_, g) in zip(first[0], late[0])))

    def test_no_primes_one_prime_and_still_primes(self):
        self.same([turning_of(samples.NONE, (), ()), told_turning(samples.NONE, ())], [(), ((), ())])
        self.same([inner_by(samples.NONE, ()), is_inner(samples.NONE, ())], [(), True])
        self.same([turning_of(((7,), ()), ((7, 3),), ()), told_turning(((7,), ()), ((3,),))], [((3,),), (((7, 3),), ())])
        self.same([is_inner(((7,), ()), ((3,),)), is_inner(((7,), ()), ((1,),))], [False, True])
        self.same(turning_of(((2, 3), ()), ((2, 1), (3, 2)), ()), ((1, 0), (0, 2)))

    def test_maps_that_are_no_turnings(self):
        for table in ALL:
            for first, other, images in mapsamples.some_maps(table):
                if first != table or other != table or reference.nought(table) in images:
                    if first == table and other == table:
                        wrong.is_refused(self, "images", told_turning, table, images)
                    continue
                self.same(turning_of(table, *told_turning(table, images)), images)


class Inner(Case):
    def test_all_things_of_small_tables(self):
        for table in samples.SMALL + (samples.all_tables((2, 3, 11))[2],):
            group = reference.group(table)
            units = reference.units(table)
            inner = {tuple(group.turned(unit, x) for unit in units) for x in group.things}
            for x in group.things:
                self.same(inner_by(thing=x, table=table), tuple(group.turned(unit, x) for unit in units))
            for images in turnings(table):
                self.same(is_inner(images=images, table=table), images in inner)

    def test_tables_with_more_movers(self):
        for table in (samples.TWO, samples.TWIN, samples.WIDE, samples.MIXED) + samples.MIDDLE[::9]:
            units = reference.units(table)
            inner = {tuple(mapsamples.turned(table, unit, x) for unit in units) for x in reference.all_things(table)[::3]}
            for x in samples.spread(table, 5):
                inner.add(tuple(mapsamples.turned(table, unit, x) for unit in units))
            for images in list(inner)[::5]:
                self.same(is_inner(table, images), True)

    def test_all_factors(self):
        # Those of inner ones are the factors that some thing has.
        for table in (samples.TWO, samples.TWIN, samples.WIDE, samples.THREE, samples.PAIRED, samples.PARTED):
            movers = reference.movers(table)
            known = set()
            for rests in itertools.product(*[range(p) if p in movers else [0] for p in table[0]]):
                known.add(tuple(f for prime, f in zip(table[0], reference.factors(table, rests)) if prime not in movers))
            primes = others(table)
            shifts = tuple((q, q - 1) for q in reference.moved_ones(table))
            choices = itertools.product(*[range(1, q) for q in primes])
            for chosen in itertools.islice(choices, 0, None, 1 if len(primes) < 3 else 3):
                images = turning_of(table, tuple(zip(primes, chosen)), shifts)
                self.same(is_inner(table, images), chosen in known)

    def test_great_tables(self):
        for table in ALL:
            for k, x in enumerate(samples.spread(table, 5)):
                images = inner_by(table, x)
                self.same(images, tuple(mapsamples.turned(table, unit, x) for unit in reference.units(table)))
                self.same(is_inner(table, images), True)
                for y in samples.spread(table, 2, k):
                    self.same(mapped(table, table, images, y), mapsamples.turned(table, y, x))
                factors, shifts = told_turning(table, images)
                self.same([factor for _, factor in factors], [f for prime, f in zip(table[0], reference.factors(table, x))
                                                              if prime not in reference.movers(table)])
                rests = dict(zip(table[0], x))
                self.same(shifts, tuple((q, rests[q]) for q in reference.moved_ones(table)))

    def test_still_primes_and_what_no_root_brings(self):
        for table in ALL:
            for k, (q, factor) in enumerate(some_told(table, 0)[0][0]):
                factors, shifts = some_told(table, 0)[0]
                movers = [p for p, late in reference.web(table) if late == q]
                order = 1
                for mover in movers:
                    order *= mover
                for late in (2, q - 1, 3):
                    if late % q:
                        near = factors[:k] + ((q, late % q),) + factors[k + 1:]
                        images = turning_of(table, near, shifts)
                        if pow(late, order, q) != 1:
                            self.same(is_inner(table, images), False)


def pairs_taken(primes, least, value):
    if type(value) is not tuple or not all(type(pair) is tuple and len(pair) == 2 for pair in value):
        return False
    if not all(reference.is_int(each) for pair in value for each in pair):
        return False
    return [q for q, _ in value] == list(primes) and all(least <= k < q for q, k in value)


def factors_taken(known, value):
    return pairs_taken(others(known["table"]), 1, value)


def shifts_taken(known, value):
    return pairs_taken(reference.moved_ones(known["table"]), 0, value)


def turning_taken(known, value):
    return wrong.images(known, value) and reference.nought(known["table"]) not in value


class WrongInputs(Case):
    takes = {"table": wrong.table, "factors": factors_taken, "shifts": shifts_taken, "images": turning_taken,
             "thing": wrong.thing}

    def test_wrong_inputs(self):
        wrong.check_refusals(self, turning_of, {"table": samples.SIX, "factors": ((3, 2),), "shifts": ((3, 1),)}, self.takes)
        for call in (told_turning, is_inner):
            wrong.check_refusals(self, call, {"table": samples.SIX, "images": ((1, 2), (0, 2))}, self.takes)
        wrong.check_refusals(self, inner_by, {"table": samples.SIX, "thing": (0, 1)}, self.takes)

    def test_each_change_of_factors_and_shifts(self):
        table = samples.MIXED
        factors, shifts = ((5, 2), (7, 3), (11, 4)), ((5, 0), (7, 6))
        for value in wrong.changed(factors):
            if factors_taken({"table": table}, value):
                self.same(told_turning(table, turning_of(table, value, shifts)), (value, shifts))
            else:
                self.raises(NotUsable, {"word": "factors", "at": -1}, turning_of, table, value, None)
        for value in wrong.changed(shifts):
            if shifts_taken({"table": table}, value):
                self.same(told_turning(table, turning_of(table, factors, value)), (factors, value))
            else:
                self.raises(NotUsable, {"word": "shifts", "at": -1}, turning_of, table, factors, value)

    def test_each_change_of_the_images(self):
        for value in wrong.changed(((1, 2), (0, 2))):
            if turning_taken({"table": samples.SIX}, value):
                self.same(turning_of(samples.SIX, *told_turning(samples.SIX, value)), value)
            else:
                for call in (told_turning, is_inner):
                    self.raises(NotUsable, {"word": "images", "at": -1}, call, samples.SIX, value)


if __name__ == "__main__":
    unittest.main()
