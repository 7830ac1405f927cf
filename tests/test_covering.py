"""Covers ([67] [68] [69], (S6))."""

import functools
import itertools
import unittest

from tests import reference, samples, wrong
from tests.support import Case
from tests.test_parts import some_parts
from tests.test_partsmade import Told
from whoacts.covering import cover_number, covers, fewest_cover, how_many_missed, missed_thing
from whoacts.partorders import greatest_parts, lies_in
from whoacts.partsmade import meet_of
from whoacts.parts import holds, size_of

ALL = samples.SMALL + samples.MIDDLE + samples.GREAT + samples.DOCUMENT + (samples.PAIRED,)
# Tables of up to two thousand things, of which a least cover has many parts.
MANY_PARTS = (samples.great_table((2, 997), ((2, 997),)), samples.great_table((3, 577), ((3, 577),)),
              samples.great_table((2, 3, 331), ((2, 331), (3, 331))), samples.great_table((11, 23), ((11, 23),)))

told_of = functools.lru_cache(maxsize=None)(Told)


def missed(table, parts):
    """All things that are in none of the parts, thing by thing."""
    return [x for x in reference.all_things(table) if not any(reference.holds(table, part, x) for part in parts)]


def by_meets(table, parts):
    """How many things are in none of the parts, by the numbers of what some of them have in common."""
    total = 0
    for k in range(len(parts) + 1):
        for chosen in itertools.combinations(parts, k):
            part = (table[0], ())
            for other in chosen:
                part = meet_of(table, part, other)
            total += (-1) ** k * size_of(table, part)
    return total


def some_rows(table, count, seed=0):
    """Tuples of none to eight parts, the part of all things and that of nought in some of them."""
    parts = some_parts(table)
    rows = [(), ((table[0], ()),), (((), ()),), (((), ()),) * 8, (((), ()), (table[0], ()), ((), ()))]
    for k in range(count):
        rows.append(tuple(parts[(k * 7919 + j * j * 31 + j * seed + k * j * 13) % len(parts)] for j in range(k % 9)))
    return rows


def greatest_rows(table, count):
    """Tuples of up to eight parts that no other part but that of all things has."""
    parts = greatest_parts(table) if len(table[0]) and max(table[0]) < 60 else samples.spread_parts(table, 9)
    return [tuple(parts[(k * 17 + j * (1 + k // 5)) % len(parts)] for j in range(8)) for k in range(count if parts else 0)]


class Missed(Case):
    def judges(self, table, parts, left):
        """All three functions tell of the parts, which leave these things out, what the document says."""
        self.same(how_many_missed(parts=parts, table=table), len(left))
        self.same(covers(parts=parts, table=table), not left)
        thing = missed_thing(parts=parts, table=table)
        if left:
            self.assertIn(thing, left)
            self.assertTrue(reference.is_thing(table, thing))
        else:
            self.assertIsNone(thing)

    def test_each_thing_of_small_tables(self):
        for table in samples.SMALL + samples.MIDDLE[::4] + (samples.WIDE, samples.TWO):
            for parts in some_rows(table, 20) + greatest_rows(table, 10):
                self.judges(table, parts, missed(table, parts))

    def test_each_one_and_each_two_parts_of_small_tables(self):
        for table in samples.SMALL[::2]:
            told = told_of(table)
            things = set(told.group.things)
            for part, ones in told.things.items():
                self.judges(table, (part,), things - ones)
                for other, late in list(told.things.items())[::3]:
                    self.judges(table, (part, other), things - ones - late)

    def test_great_tables(self):
        for table in samples.GREAT + (samples.MIXED, samples.THREE, samples.PAIRED):
            for k, parts in enumerate(some_rows(table, 27) + greatest_rows(table, 4)):
                expected = by_meets(table, parts) if len(parts) < 6 or k % 8 == 0 else how_many_missed(table, parts)
                self.same(how_many_missed(table, parts), expected)
                self.same(covers(table, parts), expected == 0)
                thing = missed_thing(table, parts)
                if expected:
                    self.assertTrue(reference.is_thing(table, thing))
                    self.same([holds(table, part, thing) for part in parts], [False] * len(parts))
                else:
                    self.assertIsNone(thing)

    def test_eight_parts_of_great_tables_with_one_spot_each(self):
        for table in samples.GREAT:
            for prime in [prime for prime in reference.moved_ones(table) if prime > 49]:
                others = tuple(late for late in table[0] if late != prime)
                parts = tuple((others, ((prime, spot * 7),)) for spot in range(8))
                # What two of them have in common is the same for all of them.
                both = size_of(table, meet_of(table, parts[0], parts[1]))
                number = reference.number(table)
                self.same(how_many_missed(table, parts), number - 8 * (number // prime) + 7 * both)

    def test_repeats_and_order_do_not_count(self):
        for table in ALL:
            for parts in some_rows(table, 8, 3):
                expected = how_many_missed(table, parts)
                self.same(how_many_missed(table, parts[::-1]), expected)
                self.same(how_many_missed(table, parts[:4] * 2), how_many_missed(table, parts[:4]))

    def test_no_parts_and_the_part_of_all_things(self):
        for table in ALL:
            self.same(how_many_missed(table, ()), reference.number(table))
            self.same(covers(table, ()), False)
            self.assertTrue(reference.is_thing(table, missed_thing(table, ())))
            whole = (table[0], ())
            for parts in ((whole,), (((), ()), whole), (whole,) * 8):
                self.same([covers(table, parts), how_many_missed(table, parts)], [True, 0])
                self.assertIsNone(missed_thing(table, parts))
        self.same(how_many_missed(samples.NONE, ()), 1)
        self.same(missed_thing(samples.NONE, ()), ())


class Fewest(Case):
    def is_covered(self, left, parts, many):
        """Whether so many of the parts, sets of things, have all of what is left."""
        if not left:
            return True
        if many == 0:
            return False
        least = min(left)
        return any(self.is_covered(left - part, parts, many - 1) for part in parts if least in part)

    def test_by_trying_sets_of_parts(self):
        for table in samples.SMALL + samples.MIDDLE[::5]:
            group = reference.group(table)
            whole = frozenset(group.things)
            parts = [part for part in group.parts if part != whole]
            # A set of parts covers no less if each is put into a greatest one.
            greatest = [part for part in parts if not any(part < other for other in parts)]
            number = cover_number(table)
            if number is None:
                self.assertFalse(self.is_covered(whole, greatest, len(greatest)), table)
            elif number <= 12:
                self.assertTrue(self.is_covered(whole, greatest, number), table)
                self.assertFalse(self.is_covered(whole, greatest, number - 1), table)

    def test_all_sets_of_all_parts_of_the_least_tables(self):
        for table in samples.all_tables((2, 3)) + samples.all_tables((2, 5)):
            told = told_of(table)
            parts = [things for part, things in told.things.items() if part[0] != table[0]]
            number = cover_number(table) or 3
            for k in range(number):
                for chosen in itertools.combinations(parts, k):
                    self.assertLess(len(set().union(*chosen)), reference.number(table))

    def test_cover_number(self):
        for table in ALL + MANY_PARTS:
            moved = reference.moved_ones(table)
            self.same(cover_number(table=table), min(moved) + 1 if moved else None)
        self.same([cover_number(((2, 3), ())), cover_number(samples.NONE), cover_number(((7,), ()))], [None] * 3)

    def test_fewest_cover(self):
        for table in ALL + MANY_PARTS:
            number = cover_number(table)
            if number is not None and number > 2000:
                continue
            parts = fewest_cover(table=table)
            if number is None:
                self.assertIsNone(parts)
                continue
            self.assertIs(type(parts), tuple)
            self.same(parts, tuple(sorted(set(parts))))
            self.same(len(parts), number)
            self.assertTrue(all(reference.is_part(table, part) and part[0] != table[0] for part in parts))
            if reference.number(table) <= 2000:
                self.same([covers(table, parts), how_many_missed(table, parts)], [True, 0])
                self.assertIsNone(missed_thing(table, parts))
                for k in (0, number // 2, number - 1):
                    self.same(covers(table, parts[:k] + parts[k + 1:]), False)
            if reference.number(table) <= 300:
                self.same(missed(table, parts), [])

    def test_fewest_cover_of_a_great_table(self):
        table = samples.GREAT[6]
        parts = fewest_cover(table)
        self.same(len(parts), 8)
        self.same([covers(table, parts), missed_thing(table, parts)], [True, None])
        for k in range(8):
            self.same(covers(table, parts[:k] + parts[k + 1:]), False)

    def test_fewest_cover_with_two_thousand_parts(self):
        table = samples.great_table((2, 3, 1999, 9973), ((2, 1999), (3, 1999), (2, 9973)))
        parts = fewest_cover(table)
        self.same([len(parts), cover_number(table)], [2000, 2000])
        self.same([part for part in parts if 1999 in part[0]], [((1999, 9973), ())])

    def test_a_cover_stays_one_with_greater_parts(self):
        for table in samples.SMALL + (samples.MIXED, samples.THREE, samples.WIDE):
            parts = fewest_cover(table)
            if parts is None:
                continue
            for k, part in enumerate(parts):
                for other in some_parts(table)[::3]:
                    if lies_in(table, part, other):
                        self.same(covers(table, parts[:k] + (other,) + parts[k + 1:]), True)

    def test_the_same_for_all_tables_with_one_web(self):
        for table in samples.MIDDLE + (samples.TWO, samples.THREE, samples.PAIRED):
            other = samples.other_roots(table)
            self.same(cover_number(other), cover_number(table))
            self.same(fewest_cover(other), fewest_cover(table))


class WrongInputs(Case):
    def test_wrong_inputs(self):
        takes = {"table": wrong.table, "parts": wrong.parts}
        args = {"table": samples.SIX, "parts": (((2,), ((3, 1),)), ((3,), ()))}
        for call in (covers, how_many_missed, missed_thing):
            wrong.check_refusals(self, call, args, takes)
            for value in wrong.any_values():
                if not reference.is_part(samples.SIX, value):
                    for parts in ((value,), (((3,), ()), value), [value], (((3,), ()), [((3,), ())])):
                        wrong.is_refused(self, "parts", call, samples.SIX, parts)
        for call in (cover_number, fewest_cover):
            wrong.check_refusals(self, call, {"table": samples.SIX}, takes)

    def test_each_change_of_parts(self):
        for value in wrong.changed((((2,), ((3, 1),)), ((3,), ()))):
            if wrong.parts({"table": samples.SIX}, value):
                self.same(how_many_missed(samples.SIX, value), len(missed(samples.SIX, value)))
            else:
                wrong.is_refused(self, "parts", how_many_missed, samples.SIX, value)


if __name__ == "__main__":
    unittest.main()
