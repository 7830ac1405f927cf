"""What is left of a table by a whole part, and what is within a part ([37] [38], (S4))."""

import unittest

from tests import reference, samples, wrong
from tests.support import Case
from tests.test_parts import put_into, some_parts
from whoacts.errors import NotUsable
from whoacts.leftover import image_of, left_of, table_of_part, within_part

ALL = samples.SMALL + samples.MIDDLE + samples.GREAT + samples.DOCUMENT


def cut(table, primes):
    """The table with these primes alone, and of the moves those between two of them."""
    steps = [(p, q, root) for p, row in table[1] for q, root in row if p in primes and q in primes]
    return samples.table_of([p for p in table[0] if p in primes], steps)


def rests(table, thing, primes):
    return tuple(rest for prime, rest in zip(table[0], thing) if prime in primes)


class Left(Case):
    def whole_parts(self, table):
        return [part for part in some_parts(table) if part[1] == ()]

    def test_the_table_that_is_left(self):
        for table in ALL:
            for part in self.whole_parts(table):
                left = left_of(part=part, table=table)
                self.same(left, cut(table, set(table[0]) - set(part[0])))
                self.same(left_of(table, part), left)
                self.assertTrue(reference.is_table(left))

    def test_images_lead_products_to_products(self):
        for table in ALL:
            for part in self.whole_parts(table)[:20]:
                left = left_of(table, part)
                for x, y in zip(samples.spread(table, 8), samples.spread(table, 8, 2)):
                    image = image_of(thing=x, part=part, table=table)
                    self.same(image, rests(table, x, left[0]))
                    product = reference.times(left, image, image_of(table, part, y))
                    self.same(image_of(table, part, reference.times(table, x, y)), product)

    def test_just_the_things_of_the_part_have_nought_as_image(self):
        for table in samples.SMALL + samples.MIDDLE[:3]:
            for part in self.whole_parts(table):
                nought = reference.nought(left_of(table, part))
                images = set()
                for x in reference.all_things(table):
                    image = image_of(table, part, x)
                    images.add(image)
                    self.same(image == nought, reference.holds(table, part, x))
                self.assertEqual(len(images), reference.number(left_of(table, part)))

    def test_parts_that_are_not_whole(self):
        for table in ALL:
            nought = reference.nought(table)
            for part in some_parts(table)[:40]:
                if part[1] != ():
                    self.raises(NotUsable, {"word": "part", "at": -1}, left_of, table, part)
                    self.raises(NotUsable, {"word": "part", "at": -1}, image_of, table, part, nought)
                    self.raises(NotUsable, {"word": "part", "at": -1}, image_of, table, part, None)

    def test_movers_that_move_nothing_are_movers_no_more(self):
        self.same(left_of(samples.MIXED, ((7,), ())), ((2, 3, 5, 11), ((2, ((5, 4),)),)))
        self.same(left_of(samples.SIX, ((3,), ())), ((2,), ()))
        self.same([left_of(samples.SIX, ((), ())), left_of(samples.SIX, ((2, 3), ()))], [samples.SIX, ((), ())])
        self.same(image_of(samples.SIX, ((2, 3), ()), (1, 2)), ())

    def test_wrong_inputs(self):
        takes = {"table": wrong.table, "part": wrong.whole_part, "thing": wrong.thing}
        args = {"table": samples.SIX, "part": ((3,), ()), "thing": (1, 2)}
        wrong.check_refusals(self, image_of, args, takes)
        wrong.check_refusals(self, left_of, {"table": samples.SIX, "part": ((3,), ())}, takes)


class Within(Case):
    def test_the_table_of_a_part(self):
        for table in ALL:
            for part in some_parts(table):
                got = table_of_part(part=part, table=table)
                self.same(got, cut(table, part[0]))
                self.same(table_of_part(table, part), got)

    def test_things_within_a_part_lead_products_to_products(self):
        for table in ALL:
            for part in some_parts(table)[:25]:
                small = table_of_part(table, part)
                for x, y in zip(samples.spread(table, 6), samples.spread(table, 6, 2)):
                    x, y = put_into(table, part, x), put_into(table, part, y)
                    one = within_part(thing=x, part=part, table=table)
                    self.same(one, rests(table, x, part[0]))
                    product = reference.times(small, one, within_part(table, part, y))
                    self.same(within_part(table, part, reference.times(table, x, y)), product)

    def test_one_to_one_and_onto_and_no_other_things(self):
        for table in samples.SMALL + samples.MIDDLE[:3]:
            for part in some_parts(table)[::2]:
                found = []
                for x in reference.all_things(table):
                    if reference.holds(table, part, x):
                        found.append(within_part(table, part, x))
                    else:
                        self.raises(NotUsable, {"word": "thing", "at": -1}, within_part, table, part, x)
                self.assertEqual(sorted(found), reference.all_things(table_of_part(table, part)))

    def test_wrong_inputs(self):
        takes = {"table": wrong.table, "part": wrong.part,
                 "thing": lambda known, value: wrong.thing(known, value)
                 and reference.holds(known["table"], known["part"], value)}
        args = {"table": samples.SIX, "part": ((2,), ((3, 1),)), "thing": (1, 2)}
        wrong.check_refusals(self, within_part, args, takes)
        wrong.check_refusals(self, table_of_part, {"table": samples.SIX, "part": ((2,), ((3, 1),))}, takes)


if __name__ == "__main__":
    unittest.main()
