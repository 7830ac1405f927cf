"""Maps ([72] [73] [74])."""

import itertools
import unittest

from tests import mapsamples, reference, samples, wrong
from tests.support import Case
from whoacts.errors import NotUsable
from whoacts.mapping import kernel_of, map_behind, mapped, range_of
from whoacts.maps import is_map, units_of

ALL = samples.SMALL + samples.MIDDLE + samples.GREAT + samples.DOCUMENT + (samples.PAIRED,)
PAIR = ((2,), ())


class Units(Case):
    def test_units(self):
        for table in ALL:
            self.same(units_of(table=table), reference.units(table))
        self.same([units_of(samples.NONE), units_of(samples.SIX)], [(), ((1, 0), (0, 1))])


class IsMap(Case):
    def test_all_tuples_of_things(self):
        count = 0
        for table, other in itertools.product(samples.SMALL, repeat=2):
            things = reference.all_things(other)
            if len(things) ** len(table[0]) > 1400:
                continue
            known = reference.all_maps(table, other)
            for images in itertools.product(things, repeat=len(table[0])):
                self.same(is_map(table, other, images), images in known)
                count += images in known
        self.assertGreater(count, 1000)

    def test_all_maps_of_small_tables(self):
        for table, other in itertools.product(samples.SMALL, repeat=2):
            for images in reference.all_maps(table, other):
                self.same(is_map(value=images, other=other, table=table), True)
                for k in range(len(images)):
                    for late in samples.spread(other, 2, k):
                        near = images[:k] + (late,) + images[k + 1:]
                        self.same(is_map(table, other, near), near in reference.all_maps(table, other))

    def test_two_movers_on_one_prime(self):
        seven = tuple(table for table in samples.all_tables((2, 3, 7)) if len(reference.web(table)) == 2)
        for table in seven:
            for other in seven + (samples.TWO, samples.TWIN)[:1]:
                for images, told in list(reference.all_maps(table, other).items())[::5]:
                    self.same(is_map(table, other, images), True)
                    self.same(is_map(table, other, images[::-1]), images[::-1] in reference.all_maps(table, other))

    def test_great_tables(self):
        count = 0
        for table in ALL:
            for first, other, images in mapsamples.some_maps(table):
                self.same(is_map(first, other, images), True, (first, other, images))
                self.assertTrue(mapsamples.relations_hold(first, other, images))
                for k in range(len(images)):
                    nought = reference.nought(other)
                    unit = reference.units(other)[-1:]
                    double = reference.times(other, images[k], images[k])
                    for late in (nought, double, images[k - 1]) + unit + tuple(samples.spread(other, 1, k)):
                        near = images[:k] + (late,) + images[k + 1:]
                        expected = mapsamples.relations_hold(first, other, near)
                        self.same(is_map(first, other, near), expected, (first, other, near))
                        count += not expected
        self.assertGreater(count, 3000)

    def test_values_of_other_forms(self):
        for table in (samples.SIX, samples.TWO, samples.MIXED):
            units = reference.units(table)
            for value in (list(units), units[:-1], units + units[-1:], units[::-1], (), None, units[0],
                          tuple(list(unit) for unit in units), tuple(unit[:-1] for unit in units), (units,)):
                self.same(is_map(table, table, value), False)
        self.same([is_map(samples.NONE, samples.SIX, value) for value in ((), [], None, ((),), 0)],
                  [True, False, False, False, False])
        self.same([is_map(samples.SIX, samples.NONE, value) for value in (((), ()), ((),), (), ([], []))],
                  [True, False, False, False])

    def test_any_value(self):
        for table, other in ((samples.SIX, samples.SIX), (samples.SIX, PAIR), (PAIR, samples.SIX), (samples.NONE, PAIR),
                             (PAIR, samples.NONE), (samples.MIXED, samples.SIX)):
            for value in wrong.any_values():
                before = repr(value)
                expected = False
                if type(value) is tuple and len(value) == len(table[0]):
                    expected = all(reference.is_thing(other, image) for image in value) and mapsamples.relations_hold(
                        table, other, value)
                self.same(is_map(table, other, value), expected)
                self.same(is_map(table, other, (value,)), reference.tells_map(table, other, (value,))
                          if len(table[0]) == 1 else False)
                self.assertEqual(repr(value), before)

    def test_each_change_of_a_map(self):
        for table, other, images in ((samples.SIX, samples.SIX, ((1, 2), (0, 2))), (samples.SIX, PAIR, ((1,), (0,)))):
            for value in wrong.changed(images):
                self.same(is_map(table, other, value), reference.tells_map(table, other, value), value)


class Mapped(Case):
    def test_each_thing_of_small_tables(self):
        for table, other in itertools.product(samples.SMALL, repeat=2):
            maps = reference.all_maps(table, other)
            for k, (images, told) in enumerate(maps.items()):
                if len(maps) <= 20 or k % 7 == 0:
                    for thing in reference.all_things(table):
                        self.same(mapped(table, other, images, thing), told[thing])
                    ends = set(told.values())
                    self.check_parts(table, other, images, [x for x in told if told[x] == reference.nought(other)], ends)

    def check_parts(self, table, other, images, lost, ends):
        """The kernel has just the things that are lost, the range just these ends."""
        kernel = kernel_of(table=table, other=other, images=images)
        self.assertTrue(reference.is_part(table, kernel))
        self.same([x for x in reference.all_things(table) if reference.holds(table, kernel, x)], sorted(lost))
        part = range_of(table=table, other=other, images=images)
        self.assertTrue(reference.is_part(other, part))
        self.same([y for y in reference.all_things(other) if reference.holds(other, part, y)], sorted(ends))

    def test_great_tables(self):
        for table in ALL:
            for first, other, images in mapsamples.some_maps(table):
                units = reference.units(first)
                self.same(tuple(mapped(first, other, images, unit) for unit in units), images)
                things = samples.spread(first, 4)
                ends = [mapped(images=images, thing=x, table=first, other=other) for x in things]
                for x, end in zip(things, ends):
                    self.assertTrue(reference.is_thing(other, end))
                    for y, late in zip(things, ends):
                        self.same(mapped(first, other, images, reference.times(first, x, y)),
                                  reference.times(other, end, late))
                kernel = kernel_of(first, other, images)
                nought = reference.nought(other)
                self.same(kernel, (tuple(p for p, image in zip(first[0], images) if image == nought), ()))
                part = range_of(first, other, images)
                self.assertTrue(reference.is_part(other, part))
                self.same(part[0], tuple(prime for prime in first[0] if prime not in kernel[0]))
                self.same([reference.holds(other, part, end) for end in ends], [True] * len(ends))
                self.same([reference.holds(other, part, image) for image in images], [True] * len(images))

    def test_the_unit_map_and_the_one_to_nought(self):
        for table in ALL:
            units, nought = reference.units(table), reference.nought(table)
            for thing in samples.spread(table, 3) + [nought]:
                self.same(mapped(table, table, units, thing), thing)
                self.same(mapped(table, table, (nought,) * len(units), thing), nought)
            self.same([kernel_of(table, table, units), range_of(table, table, units)], [((), ()), (table[0], ())])
            images = (nought,) * len(units)
            self.same([kernel_of(table, table, images), range_of(table, table, images)], [(table[0], ()), ((), ())])


class Behind(Case):
    def test_each_thing_of_small_tables(self):
        tables = samples.SMALL[1:20:3] + (samples.SIX,)
        for table, other, third in itertools.product(tables, repeat=3):
            for images, told in list(reference.all_maps(table, other).items())[::4]:
                for late, known in list(reference.all_maps(other, third).items())[::5]:
                    got = map_behind(table=table, other=other, third=third, images=images, late=late)
                    led = reference.map_of(table, third, got)
                    self.same(led, {x: known[told[x]] for x in led})

    def test_great_tables(self):
        for table in ALL:
            maps = mapsamples.some_maps(table)
            outward = [told for told in maps if told[0] == table]
            inward = [told for told in maps if told[1] == table]
            for first, _, images in inward:
                for _, third, late in outward:
                    got = map_behind(first, table, third, images, late)
                    self.same(is_map(first, third, got), True)
                    for thing in samples.spread(first, 2):
                        self.same(mapped(first, third, got, thing),
                                  mapped(table, third, late, mapped(first, table, images, thing)))


class WrongInputs(Case):
    takes = {"table": wrong.table, "other": wrong.other_table, "third": wrong.other_table, "images": wrong.images,
             "late": wrong.late_images, "thing": wrong.thing, "value": wrong.judged}

    def test_units_and_is_map(self):
        wrong.check_refusals(self, units_of, {"table": samples.SIX}, self.takes)
        wrong.check_refusals(self, is_map, {"table": samples.SIX, "other": PAIR, "value": ((1,), (0,))}, self.takes)

    def test_mapping(self):
        args = {"table": samples.SIX, "other": PAIR, "images": ((1,), (0,))}
        for call in (kernel_of, range_of):
            wrong.check_refusals(self, call, args, self.takes)
        wrong.check_refusals(self, mapped, {**args, "thing": (1, 1)}, self.takes)
        args = {"table": samples.SIX, "other": PAIR, "third": samples.SIX, "images": ((1,), (0,)), "late": ((1, 2),)}
        wrong.check_refusals(self, map_behind, args, self.takes)

    def test_things_that_tell_no_map(self):
        fields = {"word": "images", "at": -1}
        for images in (((1, 0), (1, 0)), ((0, 1), (0, 0)), ((1, 0), (0, 0), (0, 0)), ((1, 0),), ((0, 0), (0, 1))):
            for call in (kernel_of, range_of):
                self.raises(NotUsable, fields, call, samples.SIX, samples.SIX, images)
            self.raises(NotUsable, fields, mapped, samples.SIX, samples.SIX, images, (9, 9))
            self.raises(NotUsable, fields, map_behind, samples.SIX, samples.SIX, samples.SIX, images, None)
            self.raises(NotUsable, {"word": "late", "at": -1}, map_behind, samples.SIX, samples.SIX, samples.SIX,
                        ((1, 0), (0, 1)), images)

    def test_each_change_of_the_images(self):
        for value in wrong.changed(((1, 2), (0, 2))):
            if reference.tells_map(samples.SIX, samples.SIX, value):
                self.same(mapped(samples.SIX, samples.SIX, value, (1, 1)),
                          reference.map_of(samples.SIX, samples.SIX, value)[(1, 1)])
            else:
                self.raises(NotUsable, {"word": "images", "at": -1}, mapped, samples.SIX, samples.SIX, value, (1, 1))


if __name__ == "__main__":
    unittest.main()
